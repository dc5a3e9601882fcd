"""Spaces: points with a grade of nearness between each two of them."""

from farscale.errors import BadName, BadTable, MixedScales, NotSame, NotThrough, TwiceTold, UnknownGrade, UnknownPoint
from farscale.families import TurnedScale
from farscale.scales import is_plain_name


def _is_point_name(name):
    """True if the string is a name that callers may give to a point."""
    return is_plain_name(name) and not name[0].isdigit()


def check_name(name, earlier):
    """BadName if the string is no name, TwiceTold if it is one of the earlier ones."""
    if not _is_point_name(name):
        raise BadName(name)
    if name in earlier:
        raise TwiceTold(name)


def check_names(names):
    """BadName or TwiceTold for the first name that is no name, or else one of those ahead of it."""
    for place, name in enumerate(names):
        check_name(name, names[:place])


def check_rows(scale, rows, height, width):
    """BadTable unless there are so many rows with so many entries, UnknownGrade for the first that is no grade."""
    if len(rows) != height or not all([len(row) == width for row in rows]):
        raise BadTable()
    for row in rows:
        for grade in row:
            if grade not in scale:
                raise UnknownGrade(grade)


def check_scales(first, second):
    """MixedScales unless both spaces are over the same scale."""
    if first.scale != second.scale:
        raise MixedScales()


def _check_same(scale, points, rows):
    for place, x in enumerate(points):
        if not scale.within(scale.unit, rows[place][place]):
            raise NotSame(x)


def first_shortcut(scale, first, second, whole):
    """The first places i, j, k at which first[i][j] then second[j][k] does not lie within whole[i][k], or None."""
    for i, row in enumerate(first):
        for j, ahead in enumerate(row):
            for k, behind in enumerate(second[j]):
                if not scale.within(scale.then(ahead, behind), whole[i][k]):
                    return i, j, k
    return None


def _check_through(scale, points, rows):
    found = first_shortcut(scale, rows, rows, rows)
    if found is not None:
        i, j, k = found
        raise NotThrough(points[i], points[j], points[k])


def _places(points):
    """The number of each point in the order."""
    return {point: place for place, point in enumerate(points)}


class Space:
    """Points in an order, and for each two of them a grade of a scale."""

    def __init__(self, scale, points, rows):
        check_names(points)
        check_rows(scale, rows, len(points), len(points))
        _check_same(scale, points, rows)
        _check_through(scale, points, rows)
        self.scale = scale
        self._points = list(points)
        self._rows = [list(row) for row in rows]
        self._places = _places(points)

    def points(self):
        """The list of the points in order."""
        return list(self._points)

    def rows(self):
        """The grades of the points, row by row."""
        return [list(row) for row in self._rows]

    def place(self, point):
        """The number of a point in the order, counted from 0."""
        if point not in self._places:
            raise UnknownPoint(point)
        return self._places[point]

    def near(self, x, y):
        """How near x is to y."""
        return self._rows[self.place(x)][self.place(y)]

    def alike(self, x, y):
        """True if the two points are as near to each other, both ways, as each has to be to itself."""
        ahead = self.near(x, y)
        back = self.near(y, x)
        return self.scale.within(self.scale.unit, ahead) and self.scale.within(self.scale.unit, back)

    def __contains__(self, point):
        return point in self._points

    def __len__(self):
        return len(self._points)

    def __eq__(self, other):
        return (isinstance(other, Space) and self.scale == other.scale
                and self._points == other._points and self._rows == other._rows)


def made_space(scale, points, rows):
    """The space with these points and grades, which are known to fit together.

    Its points may have names that callers cannot give; so nothing is checked.
    """
    space = Space(scale, [], [])
    space._points = list(points)
    space._rows = [list(row) for row in rows]
    space._places = _places(points)
    return space


def turned(space):
    """The space over the turned scale with near(y, x) for near(x, y)."""
    points = space.points()
    rows = [[space.near(y, x) for y in points] for x in points]
    return made_space(TurnedScale(space.scale), points, rows)


def part(space, points):
    """The space of those points that the list has, in the space's order, with their grades."""
    for point in points:
        if point not in space:
            raise UnknownPoint(point)
    held = [name for name in space.points() if name in points]
    rows = [[space.near(x, y) for y in held] for x in held]
    return made_space(space.scale, held, rows)
