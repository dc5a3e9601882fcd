"""Tables: a grade for each point of one space and each point of another one."""

from farscale.errors import MixedSpaces, NotAhead, NotBehind
from farscale.spaces import Space, check_rows, check_scales, first_shortcut


def columns_of(rows, width):
    """The entries column by column; the width counts the columns, also if there are no rows."""
    return [[row[place] for row in rows] for place in range(width)]


def composite(scale, row, column):
    """The join, over all places, of the entry of the row then that of the column."""
    return scale.joined([scale.then(a, b) for a, b in zip(row, column)])


def composites(scale, rows, columns):
    """The composite of each row and each column, row by row."""
    return [[composite(scale, row, column) for column in columns] for row in rows]


def _check_ahead(source, target, rows):
    found = first_shortcut(source.scale, source.rows(), rows, rows)
    if found is not None:
        i, j, k = found
        raise NotAhead(source.points()[i], source.points()[j], target.points()[k])


def _check_behind(source, target, rows):
    found = first_shortcut(source.scale, rows, target.rows(), rows)
    if found is not None:
        i, j, k = found
        raise NotBehind(source.points()[i], target.points()[j], target.points()[k])


class Table:
    """Grades between the points of two spaces over the same scale that fit both spaces."""

    def __init__(self, source, target, rows):
        check_scales(source, target)
        check_rows(source.scale, rows, len(source), len(target))
        _check_ahead(source, target, rows)
        _check_behind(source, target, rows)
        self.source = source
        self.target = target
        self._rows = [list(row) for row in rows]

    @classmethod
    def own(cls, space):
        """The table from a space to itself with its own grades."""
        return made_table(space, space, space.rows())

    def at(self, x, y):
        """The grade of a point of the source and a point of the target."""
        return self._rows[self.source.place(x)][self.target.place(y)]

    def rows(self):
        """The grades, row by row."""
        return [list(row) for row in self._rows]

    def within(self, other):
        """True if each entry lies within that of the other table."""
        _check_side_by_side(self, other)
        scale = self.source.scale
        return all([scale.within(a, b) for row, longer in zip(self._rows, other._rows) for a, b in zip(row, longer)])

    def __rshift__(self, other):
        if self.target != other.source:
            raise MixedSpaces()
        columns = columns_of(other._rows, len(other.target))
        return made_table(self.source, other.target, composites(self.source.scale, self._rows, columns))

    def __or__(self, other):
        _check_side_by_side(self, other)
        scale = self.source.scale
        rows = [[scale.join(a, b) for a, b in zip(row, longer)] for row, longer in zip(self._rows, other._rows)]
        return made_table(self.source, self.target, rows)

    def __and__(self, other):
        _check_side_by_side(self, other)
        rows = [self.source.scale.meets(row, longer) for row, longer in zip(self._rows, other._rows)]
        return made_table(self.source, self.target, rows)

    def __eq__(self, other):
        return (isinstance(other, Table) and self.source == other.source
                and self.target == other.target and self._rows == other._rows)


def _check_side_by_side(first, second):
    """MixedSpaces unless both tables have the same source and the same target."""
    if first.source != second.source or first.target != second.target:
        raise MixedSpaces()


def made_table(source, target, rows):
    """The table with these grades, which are known to fit both spaces; so nothing is checked."""
    nothing = Space(source.scale, [], [])
    table = Table(nothing, nothing, [])
    table.source = source
    table.target = target
    table._rows = [list(row) for row in rows]
    return table


def forward(m):
    """The table from the source of a map to its target that goes on from the images."""
    space = m.target
    return made_table(m.source, space, [[space.near(image, y) for y in space.points()] for image in m.images()])


def backward(m):
    """The table from the target of a map to its source that leads to the images."""
    space = m.target
    return made_table(space, m.source, [[space.near(y, image) for image in m.images()] for y in space.points()])
