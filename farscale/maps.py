"""Maps from one space to another one."""

from farscale.errors import BadImages, MixedSpaces, Stretched, UnknownPoint
from farscale.spaces import Space, check_scales, part


def _check_images(source, target, images):
    if len(images) != len(source):
        raise BadImages()
    for image in images:
        if image not in target:
            raise UnknownPoint(image)


def _check_stretch(source, target, images):
    pairs = list(zip(source.points(), images))
    for x, p in pairs:
        for y, q in pairs:
            if not source.scale.within(source.near(x, y), target.near(p, q)):
                raise Stretched(x, y)


class SpaceMap:
    """Leads the points of a space to points of a space over the same scale that are at least as near."""

    def __init__(self, source, target, images):
        check_scales(source, target)
        _check_images(source, target, images)
        _check_stretch(source, target, images)
        self.source = source
        self.target = target
        self._images = list(images)

    @classmethod
    def same(cls, space):
        """The map that leads each point of the space to itself."""
        return cls(space, space, space.points())

    @classmethod
    def inclusion(cls, space, points):
        """The map from the part with these points to the space that leads each point to itself."""
        inner = part(space, points)
        return cls(inner, space, inner.points())

    def __call__(self, point):
        return self._images[self.source.place(point)]

    def images(self):
        """The list of the images of the source's points, in their order."""
        return list(self._images)

    def keeps(self):
        """True if near of any two points is near of their images."""
        pairs = list(zip(self.source.points(), self._images))
        return all([self.source.near(x, y) == self.target.near(p, q) for x, p in pairs for y, q in pairs])

    def __rshift__(self, other):
        if self.target != other.source:
            raise MixedSpaces()
        images = [other._images[other.source.place(point)] for point in self._images]
        return SpaceMap(self.source, other.target, images)

    def __eq__(self, other):
        return (isinstance(other, SpaceMap) and self.source == other.source
                and self.target == other.target and self._images == other._images)


def made_map(source, target, images):
    """The map with these images, which are known to be right.

    Nothing is checked, for a search that finds maps by the thousand has looked at their grades.
    """
    nothing = Space(source.scale, [], [])
    found = SpaceMap(nothing, nothing, [])
    found.source = source
    found.target = target
    found._images = list(images)
    return found
