"""Changes of scale: maps from one scale to another one, and what they carry along."""

from farscale.errors import BadImages, MixedScales, NotLoose, UnknownGrade
from farscale.maps import made_map
from farscale.spaces import made_space
from farscale.tables import made_table


class ScaleMap:
    """Leads the grades of a scale to grades of another one."""

    def __init__(self, source, target, images):
        grades = source.grades()
        if len(images) != len(grades):
            raise BadImages()
        for image in images:
            if image not in target:
                raise UnknownGrade(image)
        self.source = source
        self.target = target
        self._image_of = dict(zip(grades, images))

    @classmethod
    def same(cls, scale):
        """The map that leads each grade of the scale to itself."""
        return cls(scale, scale, scale.grades())

    def image(self, grade):
        """The grade of the target to which a grade of the source is led."""
        if grade not in self._image_of:
            raise UnknownGrade(grade)
        return self._image_of[grade]

    def fault(self):
        """The first of none, unit, join and then that is not kept, with the grades that show it; else None."""
        if self.image(self.source.none) != self.target.none:
            return "none", ()
        if self.image(self.source.unit) != self.target.unit:
            return "unit", ()
        for a, b in _pairs(self.source):
            if self.image(self.source.join(a, b)) != self.target.join(self.image(a), self.image(b)):
                return "join", (a, b)
        for a, b in _pairs(self.source):
            if self.image(self.source.then(a, b)) != self.target.then(self.image(a), self.image(b)):
                return "then", (a, b)
        return None

    def loose(self):
        """True if images are nowhere less near than unit, nearer grades and products ask for."""
        return (self.target.within(self.target.unit, self.image(self.source.unit))
                and all([self._keeps_order(a, b) and self._keeps_product(a, b) for a, b in _pairs(self.source)]))

    def _keeps_order(self, a, b):
        return not self.source.within(a, b) or self.target.within(self.image(a), self.image(b))

    def _keeps_product(self, a, b):
        product = self.target.then(self.image(a), self.image(b))
        return self.target.within(product, self.image(self.source.then(a, b)))

    def __rshift__(self, other):
        if self.target != other.source:
            raise MixedScales()
        images = [other.image(self.image(grade)) for grade in self.source.grades()]
        return ScaleMap(self.source, other.target, images)

    def __eq__(self, other):
        return (isinstance(other, ScaleMap) and self.source == other.source
                and self.target == other.target and self._image_of == other._image_of)


def _pairs(scale):
    """All pairs of grades; the first one decides their order first."""
    return [(a, b) for a in scale.grades() for b in scale.grades()]


def _check_carries(m, scale):
    """MixedScales or NotLoose unless the map carries along what is over the scale."""
    if m.source != scale:
        raise MixedScales()
    if not m.loose():
        raise NotLoose()


def _image_rows(m, rows):
    return [[m.image(grade) for grade in row] for row in rows]


def carried(m, space):
    """The space over the target of m with the images of all grades."""
    _check_carries(m, space.scale)
    return made_space(m.target, space.points(), _image_rows(m, space.rows()))


def carried_map(m, moved):
    """The map with the same images of points, between the carried spaces."""
    return made_map(carried(m, moved.source), carried(m, moved.target), moved.images())


def carried_table(m, table):
    """The table with the images of all entries, between the carried spaces."""
    return made_table(carried(m, table.source), carried(m, table.target), _image_rows(m, table.rows()))
