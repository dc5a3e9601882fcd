"""Maps that go on: into a hull from a part of a space, and from a hull into spaces that go on."""

from farscale.errors import BarePair, MixedSpaces, NotKept
from farscale.maps import made_map
from farscale.pairs import bare_pair, column_closures, pairs_of_points, row_closures
from farscale.spaces import part
from farscale.tables import columns_of, composites


def _check_part(hull, m, space):
    """MixedSpaces unless m is a map to the hull from a part of the space."""
    held = m.source.points()
    if m.target != hull.space or not all([point in space for point in held]) or m.source != part(space, held):
        raise MixedSpaces()


def least_way(hull, m, space):
    """The map from the space into the hull that has m's images and lies ahead of each other such map."""
    _check_part(hull, m, space)
    told = [column for column, _ in _image_pairs(hull, m)]
    nears = [[space.near(point, b) for point in m.source.points()] for b in space.points()]
    grades = composites(space.scale, columns_of(told, len(hull.base)), nears)
    return _way(hull, space, column_closures(hull.base, columns_of(grades, len(space))))


def greatest_way(hull, m, space):
    """The map from the space into the hull that has m's images and lies behind each other such map."""
    _check_part(hull, m, space)
    told = [row for _, row in _image_pairs(hull, m)]
    nears = [[space.near(b, point) for point in m.source.points()] for b in space.points()]
    grades = composites(space.scale, nears, columns_of(told, len(hull.base)))
    return _way(hull, space, row_closures(hull.base, grades))


def _image_pairs(hull, m):
    """The closed pairs that the images of a map to the hull are."""
    return [hull.pair_of(image) for image in m.images()]


def _way(hull, space, pairs):
    """The map from the space into the hull with these closed pairs as images."""
    return made_map(space, hull.space, [hull.point_of(column, row) for column, row in pairs])


def laid_into(hull, m):
    """A map from the hull to the target of m that keeps all grades and goes on from m, up to alike points."""
    _check_goes_on(hull, m)
    space = m.target
    told = [hull.pair_of(point)[0] for point in hull.space.points()]
    nears = [[space.near(z, image) for image in m.images()] for z in space.points()]
    grades = composites(space.scale, nears, told)
    pairs = column_closures(space, columns_of(grades, len(told)))
    # The target goes on: each closed pair is the pair of a point.
    points = dict(zip(pairs_of_points(space), space.points()))
    return made_map(hull.space, space, [points[pair] for pair in pairs])


def _check_goes_on(hull, m):
    """The errors of laid_into: the base must be kept by m, in a space that goes on."""
    if m.source != hull.base:
        raise MixedSpaces()
    if not m.keeps():
        raise NotKept()
    bare = bare_pair(m.target)
    if bare is not None:
        column, row = bare
        raise BarePair(column, row)
