"""Quotients of tables, and partners."""

from farscale.errors import MixedSpaces
from farscale.tables import Table, columns_of, composite, made_table


def quotient_rows(scale, quotient, first, second, height, width):
    """At each i and k the meet, over all places j, of the quotient of first[j][i] and second[j][k].

    Height and width tell how many i and k there are, also if there are no places.
    """
    found = [[scale.top()] * width for _ in range(height)]
    for lower, upper in zip(first, second):
        # Each grade is asked once: there are fewer grades than rows in large tables.
        by_grade = {grade: [quotient(grade, other) for other in upper] for grade in scale.grades()}
        found = [scale.meets(row, by_grade[grade]) for row, grade in zip(found, lower)]
    return found


def under(first, second):
    """The greatest table S for which first >> S is within second."""
    if first.source != second.source:
        raise MixedSpaces()
    scale = first.source.scale
    rows = quotient_rows(scale, scale.under, first.rows(), second.rows(), len(first.target), len(second.target))
    return made_table(first.target, second.target, rows)


def over(first, second):
    """The greatest table T for which T >> second is within first."""
    if first.target != second.target:
        raise MixedSpaces()
    scale = first.target.scale
    width = len(first.target)
    upper = columns_of(first.rows(), width)
    lower = columns_of(second.rows(), width)
    rows = quotient_rows(scale, scale.over, upper, lower, len(first.source), len(second.source))
    return made_table(first.source, second.source, rows)


def partner(table):
    """The table back with which this one is paired, or None if there is none."""
    back = _greatest_back(table)
    return back if _first_short(table, back) is None else None


def partnerless(table):
    """The first point of the source at which no table back can do; None if there is a partner."""
    return _first_short(table, _greatest_back(table))


def _greatest_back(table):
    """The only table back that may be a partner: the greatest one that stays within the target's grades."""
    return over(Table.own(table.target), table)


def _first_short(table, back):
    """The first point from which there and back is not as near as the unit; None if there is no such point."""
    scale = table.source.scale
    points = table.source.points()
    columns = columns_of(back.rows(), len(points))
    for point, row, column in zip(points, table.rows(), columns):
        if not scale.within(scale.unit, composite(scale, row, column)):
            return point
    return None
