"""Scales and spaces that several tests use, and ways to tell scales by tables."""

import itertools
import random

from farscale.families import ChainScale, DistanceScale, PairScale, StepScale, TurnedScale
from farscale.scales import TableScale
from farscale.spaces import Space, made_space
from farscale.tables import Table


def tables_of(scale):
    """The names and the two tables of a scale, as fresh lists."""
    names = scale.grades()
    joins = [[scale.join(a, b) for b in names] for a in names]
    products = [[scale.then(a, b) for b in names] for a in names]
    return names, joins, products


def told_again(scale):
    """The same scale, told by tables; its grades must be plain names."""
    names, joins, products = tables_of(scale)
    return TableScale(names, joins, products, none=scale.none, unit=scale.unit)


def changed(scale, joins=(), products=(), none=None, unit=None):
    """A scale told by tables in which entries (row, column, grade) are other ones."""
    names, join_rows, product_rows = tables_of(scale)
    for rows, changes in ((join_rows, joins), (product_rows, products)):
        for row, column, grade in changes:
            rows[names.index(row)][names.index(column)] = grade
    return TableScale(names, join_rows, product_rows,
                      none=none or scale.none, unit=unit or scale.unit)


def diamond():
    """Four grades, of which two have a join that is neither of them."""
    names = ["both", "east", "west", "no"]
    sides = {"both": {"e", "w"}, "east": {"e"}, "west": {"w"}, "no": set()}
    name_of = {frozenset(held): name for name, held in sides.items()}
    joins = [[name_of[frozenset(sides[a] | sides[b])] for b in names] for a in names]
    products = [[name_of[frozenset(sides[a] & sides[b])] for b in names] for a in names]
    return TableScale(names, joins, products, none="no", unit="both")


def beyond_unit():
    """Three grades of which the unit is not the nearest one, listed out of their order."""
    names = ["one", "many", "no"]
    joins = [["one", "many", "one"], ["many", "many", "many"], ["one", "many", "no"]]
    products = [["one", "many", "no"], ["many", "many", "no"], ["no", "no", "no"]]
    return TableScale(names, joins, products, none="no", unit="one")


def left_only():
    """A chain of four grades whose products spread from the left only."""
    return changed(ChainScale(4), products=[("1", "2", "1"), ("2", "1", "2")])


def sided():
    """A chain of four grades of which low then high is low, but high then low is no."""
    names = ["no", "low", "high", "one"]
    joins = [[names[max(i, j)] for j in range(4)] for i in range(4)]
    products = [["no"] * 4, ["no", "no", "low", "low"], ["no", "no", "high", "high"], names]
    return TableScale(names, joins, products, none="no", unit="one")


def growing(most):
    """Counts up to a number and no count: the join is the greater one, the product the sum, cut at the most.

    The unit is the least count: with each step of a count above nought the grade grows.
    """
    names = ["no"] + [str(k) for k in range(most + 1)]

    def name(counts):
        return "no" if None in counts else str(min(most, sum(counts)))

    def count(grade):
        return None if grade == "no" else int(grade)

    joins = [[names[max(names.index(a), names.index(b))] for b in names] for a in names]
    products = [[name([count(a), count(b)]) for b in names] for a in names]
    return TableScale(names, joins, products, none="no", unit="0")


def single():
    """A scale with one grade, which is none and unit."""
    return TableScale(["g"], [["g"]], [["g"]], none="g", unit="g")


def regular_scales():
    """Regular scales of all kinds."""
    chain, steps, near = ChainScale(2), StepScale(2), DistanceScale(2)
    return [
        single(), diamond(), beyond_unit(), sided(), TurnedScale(sided()), growing(2), growing(14),
        ChainScale(1), chain, ChainScale(5), ChainScale(16),
        DistanceScale(0), near, DistanceScale(5), DistanceScale(14),
        StepScale(1), steps, TurnedScale(steps), TurnedScale(TurnedScale(steps)),
        PairScale(chain, near), PairScale(near, beyond_unit()), PairScale(ChainScale(1), steps),
        PairScale(TurnedScale(diamond()), PairScale(chain, StepScale(1))),
        TurnedScale(PairScale(PairScale(chain, chain), near)),
    ]


def irregular_scales():
    """Scales that are not regular, of all kinds that can be."""
    broken = changed(ChainScale(3), joins=[("1", "2", "0")], products=[("2", "1", "0")])
    return [
        broken, left_only(), TurnedScale(left_only()), TurnedScale(broken),
        PairScale(broken, ChainScale(2)), PairScale(ChainScale(2), TurnedScale(broken)),
        changed(ChainScale(2), none="1"), changed(ChainScale(2), unit="0"),
        TableScale(["a", "b"], [["b", "a"], ["a", "a"]], [["b", "b"], ["a", "b"]], none="a", unit="a"),
    ]


def named(count):
    """So many names of points."""
    return [f"p{k}" for k in range(count)]


def some_steps(scale, points, count, seed):
    """So many steps between some of the points, the same ones for each call; none without points."""
    if not points:
        return []
    chance = random.Random(seed)
    grades = scale.grades()
    return [(chance.choice(points), chance.choice(points), chance.choice(grades)) for _ in range(count)]


def closed_by_rounds(scale, points, steps):
    """The rows of the told space, worked out by joining products until nothing changes."""
    near = {(x, y): scale.unit if x == y else scale.none for x in points for y in points}
    for x, y, grade in steps:
        near[x, y] = scale.join(near[x, y], grade)
    before = None
    while near != before:
        before = dict(near)
        for x, y, z in itertools.product(points, repeat=3):
            near[x, z] = scale.join(near[x, z], scale.then(near[x, y], near[y, z]))
    return [[near[x, y] for y in points] for x in points]


def some_space(scale, count, seed=0):
    """A space with so many points and all kinds of grades."""
    points = named(count)
    return Space(scale, points, closed_by_rounds(scale, points, some_steps(scale, points, count + 1, seed)))


def distances():
    """Three points on a way that leads back only slowly."""
    return Space(DistanceScale(9), ["a", "b", "c"], [["0", "2", "5"], ["4", "0", "3"], ["far", "far", "0"]])


def sides():
    """Three points over the diamond; a and c are near on both sides, a and b on one."""
    rows = [["both", "east", "both"], ["no", "both", "no"], ["west", "no", "both"]]
    return Space(diamond(), ["a", "b", "c"], rows)


def loops():
    """Two points near themselves beyond the unit."""
    return Space(beyond_unit(), ["a", "b"], [["many", "no"], ["no", "one"]])


def moves():
    """Three points over relations; a to c is the product of a to b and b to c in this order only."""
    rows = [["1001", "0010", "0001"], ["0000", "1001", "0100"], ["0000", "0000", "1001"]]
    return Space(StepScale(2), ["a", "b", "c"], rows)


def single_point(scale):
    """A space with one point, at the unit to itself."""
    return Space(scale, ["one"], [[scale.unit]])


def further_names():
    """Two points whose names callers cannot give; the first one is within reach of the second one."""
    return made_space(ChainScale(3), ["l.a", "r.a"], [["2", "0"], ["1", "2"]])


def alike_points():
    """Three points of which the first and the last are alike."""
    return Space(DistanceScale(3), ["a", "b", "c"], [["0", "1", "0"], ["2", "0", "2"], ["0", "1", "0"]])


def crowns(single_points):
    """A space with 190 closed pairs, and one more for each further point.

    A crown of k has points ai and bi, where each bi is behind all ai but the one with its number:
    each set of the ai has a closed pair of its own. Apart from each other, crowns and points
    share the first and the last pair.
    """
    names, steps = [], []
    for size in (6, 7):
        names += [f"{side}{size}x{number}" for side in "ab" for number in range(size)]
        steps += [(f"a{size}x{i}", f"b{size}x{j}", "1") for i in range(size) for j in range(size) if i != j]
    names += named(single_points)
    scale = ChainScale(2)
    return Space(scale, names, closed_by_rounds(scale, names, steps))


def small_scales():
    """Regular scales of all kinds with few grades."""
    return [scale for scale in regular_scales() if len(scale.grades()) <= 4]


def greatest(scale, grades):
    """The one of the grades within which all of them lie."""
    [found] = [c for c in grades if all(scale.join(a, c) == c for a in grades)]
    return found


def met(scale, grades):
    """The greatest grade that lies within all of the grades."""
    return greatest(scale, [c for c in scale.grades() if all(scale.join(c, a) == a for a in grades)])


def under_by_words(scale, a, b):
    return greatest(scale, [c for c in scale.grades() if scale.join(scale.then(a, c), b) == b])


def over_by_words(scale, b, a):
    return greatest(scale, [c for c in scale.grades() if scale.join(scale.then(c, a), b) == b])


def row_behind(space, column):
    """The row of a closed pair with this column."""
    return tuple(met(space.scale, [under_by_words(space.scale, f, space.near(x, y))
                                   for x, f in zip(space.points(), column)]) for y in space.points())


def column_ahead(space, row):
    """The column of a closed pair with this row."""
    return tuple(met(space.scale, [over_by_words(space.scale, space.near(x, y), g)
                                   for y, g in zip(space.points(), row)]) for x in space.points())


def pairs_by_words(space):
    """All closed pairs, looked up among all columns, in their order."""
    found = []
    for column in itertools.product(space.scale.grades(), repeat=len(space)):
        row = row_behind(space, column)
        if column_ahead(space, row) == column:
            found.append((column, row))
    return found


def pair_of_point(space, point):
    """The column and the row of a point."""
    return (tuple(space.near(x, point) for x in space.points()), tuple(space.near(point, y) for y in space.points()))


def no_table(source, target, rows):
    """The name of the error with which these rows are no table and its three points; None if they are one."""
    scale, entries = source.scale, dict(zip(source.points(), [dict(zip(target.points(), row)) for row in rows]))
    for x, y, z in itertools.product(source.points(), source.points(), target.points()):
        if scale.join(scale.then(source.near(x, y), entries[y][z]), entries[x][z]) != entries[x][z]:
            return "NotAhead", {"x": x, "y": y, "z": z}
    for x, y, z in itertools.product(source.points(), target.points(), target.points()):
        if scale.join(scale.then(entries[x][y], target.near(y, z)), entries[x][z]) != entries[x][z]:
            return "NotBehind", {"x": x, "y": y, "z": z}
    return None


def all_rows(scale, height, width):
    """All rows of grades of this height and width, as lists."""
    for entries in itertools.product(scale.grades(), repeat=height * width):
        yield [list(entries[width * k:width * k + width]) for k in range(height)]


def some_table(source, target, seed):
    """A table between the spaces with all kinds of grades, the same one for each call."""
    scale, chance = source.scale, random.Random(seed)
    told = {(x, y): chance.choice(scale.grades()) for x in source.points() for y in target.points()}
    rows = [[scale.joined([scale.then(source.near(x, p), scale.then(grade, target.near(q, y)))
                           for (p, q), grade in told.items()]) for y in target.points()] for x in source.points()]
    return Table(source, target, rows)
