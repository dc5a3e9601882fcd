"""Closed pairs of a space: a column and a row, neither of which can be made nearer."""

from farscale.errors import NotClosed, TooMany
from farscale.quotients import quotient_rows
from farscale.spaces import check_name, check_rows, made_space
from farscale.tables import columns_of, composite

MOST_PAIRS = 200


def rows_behind(space, columns):
    """For each column f the row of the meets, over all x, of under(f(x), near(x, y))."""
    scale = space.scale
    width = len(space)
    return quotient_rows(scale, scale.under, columns_of(columns, width), space.rows(), len(columns), width)


def columns_ahead(space, rows):
    """For each row g the column of the meets, over all y, of over(near(x, y), g(y))."""
    scale = space.scale
    width = len(space)
    nears = columns_of(space.rows(), width)
    found = quotient_rows(scale, scale.over, nears, columns_of(rows, width), width, len(rows))
    return columns_of(found, len(rows))


def column_closures(space, columns):
    """For each list of grades the closed pair with the least column above it."""
    rows = rows_behind(space, columns)
    return _pairs(columns_ahead(space, rows), rows)


def row_closures(space, rows):
    """For each list of grades the closed pair with the least row above it."""
    columns = columns_ahead(space, rows)
    return _pairs(columns, rows_behind(space, columns))


def _pairs(columns, rows):
    return [(tuple(column), tuple(row)) for column, row in zip(columns, rows)]


def pairs_of_points(space):
    """The closed pair of each point, in the order of the points."""
    return _pairs(columns_of(space.rows(), len(space)), space.rows())


def closed_pairs(space):
    """The list of all closed pairs, ascending by their columns; TooMany if there are more than 200."""
    places = {grade: place for place, grade in enumerate(space.scale.grades())}
    columns = sorted(_columns(space), key=lambda column: [places[entry] for entry in column])
    return _pairs(columns, rows_behind(space, columns))


def _columns(space):
    """The columns of all closed pairs: all meets of simple columns, that of none included."""
    scale = space.scale
    found = {tuple([scale.top()] * len(space)): True}
    for told in _simple_columns(space):
        if told not in found:
            for column in list(found):
                found[tuple(scale.meets(column, told))] = True
            # Further simple columns never make them fewer.
            if len(found) > MOST_PAIRS:
                raise TooMany()
    return list(found)


def _simple_columns(space):
    """The columns that belong to a single grade of a row: each over(near(x, y), grade) for one y."""
    scale = space.scale
    nears = columns_of(space.rows(), len(space))
    return [tuple([scale.over(near, grade) for near in column]) for column in nears for grade in scale.grades()]


def closure(space, grades):
    """The closed pair with the least column within whose entries the grades lie."""
    check_rows(space.scale, [grades], 1, len(space))
    return column_closures(space, [grades])[0]


def _is_closed(space, column, row):
    """True if the column and the row, lists or tuples of whatever length and entries, are a closed pair."""
    if len(column) != len(space) or not all([grade in space.scale for grade in column]):
        return False
    return closure(space, column) == (tuple(column), tuple(row))


def bare_pair(space):
    """The first closed pair that is the pair of no point; None if there is none."""
    return _first_bare(space, closed_pairs(space))


def unsettled(space):
    """The first bare pair for which unit lies within the join of all g(x) then f(x); None if there is none."""
    scale = space.scale
    settling = [(column, row) for column, row in closed_pairs(space)
                if scale.within(scale.unit, composite(scale, row, column))]
    return _first_bare(space, settling)


def _first_bare(space, pairs):
    """The first of the pairs that is the pair of no point; None if there is none."""
    held = pairs_of_points(space)
    for pair in pairs:
        if pair not in held:
            return pair
    return None


def widened(space, name, column, row):
    """The space with one point more, behind the others, at the grades of a closed pair."""
    points = space.points()
    check_name(name, points)
    if not _is_closed(space, column, row):
        raise NotClosed()
    itself = pair_rows(space.scale, [column], len(space))[0][0]
    rows = [[*nears, grade] for nears, grade in zip(space.rows(), column)]
    return made_space(space.scale, [*points, name], [*rows, [*row, itself]])


def pair_rows(scale, columns, height):
    """How near closed pairs are, told by their columns of so many entries: the meets of all under(f(x), f'(x))."""
    rows = columns_of(columns, height)
    return quotient_rows(scale, scale.under, rows, rows, len(columns), len(columns))
