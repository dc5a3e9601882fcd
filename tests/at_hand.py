"""Scales that several tests use, and ways to tell scales by tables."""

from farscale.families import ChainScale, DistanceScale, PairScale, StepScale, TurnedScale
from farscale.scales import TableScale


def tables_of(scale):
    """The names and the two tables of a scale, as fresh lists."""
    names = scale.grades()
    joins = [[scale.join(a, b) for b in names] for a in names]
    products = [[scale.then(a, b) for b in names] for a in names]
    return names, joins, products


def told_again(scale):
    """The same scale, told by tables; its grades must be plain names."""
    names, joins, products = tables_of(scale)
    return TableScale(names, joins, products, none=scale.none, unit=scale.unit)


def changed(scale, joins=(), products=(), none=None, unit=None):
    """A scale told by tables in which entries (row, column, grade) are other ones."""
    names, join_rows, product_rows = tables_of(scale)
    for rows, changes in ((join_rows, joins), (product_rows, products)):
        for row, column, grade in changes:
            rows[names.index(row)][names.index(column)] = grade
    return TableScale(names, join_rows, product_rows,
                      none=none or scale.none, unit=unit or scale.unit)


def diamond():
    """Four grades, of which two have a join that is neither of them."""
    names = ["both", "east", "west", "no"]
    sides = {"both": {"e", "w"}, "east": {"e"}, "west": {"w"}, "no": set()}
    name_of = {frozenset(held): name for name, held in sides.items()}
    joins = [[name_of[frozenset(sides[a] | sides[b])] for b in names] for a in names]
    products = [[name_of[frozenset(sides[a] & sides[b])] for b in names] for a in names]
    return TableScale(names, joins, products, none="no", unit="both")


def beyond_unit():
    """Three grades of which the unit is not the nearest one, listed out of their order."""
    names = ["one", "many", "no"]
    joins = [["one", "many", "one"], ["many", "many", "many"], ["one", "many", "no"]]
    products = [["one", "many", "no"], ["many", "many", "no"], ["no", "no", "no"]]
    return TableScale(names, joins, products, none="no", unit="one")


def left_only():
    """A chain of four grades whose products spread from the left only."""
    return changed(ChainScale(4), products=[("1", "2", "1"), ("2", "1", "2")])


def single():
    """A scale with one grade, which is none and unit."""
    return TableScale(["g"], [["g"]], [["g"]], none="g", unit="g")


def regular_scales():
    """Regular scales of all kinds."""
    chain, steps, near = ChainScale(2), StepScale(2), DistanceScale(2)
    return [
        single(), diamond(), beyond_unit(),
        ChainScale(1), chain, ChainScale(5), ChainScale(16),
        DistanceScale(0), near, DistanceScale(5), DistanceScale(14),
        StepScale(1), steps, TurnedScale(steps), TurnedScale(TurnedScale(steps)),
        PairScale(chain, near), PairScale(near, beyond_unit()), PairScale(ChainScale(1), steps),
        PairScale(TurnedScale(diamond()), PairScale(chain, StepScale(1))),
        TurnedScale(PairScale(PairScale(chain, chain), near)),
    ]


def irregular_scales():
    """Scales that are not regular, of all kinds that can be."""
    broken = changed(ChainScale(3), joins=[("1", "2", "0")], products=[("2", "1", "0")])
    return [
        broken, left_only(), TurnedScale(left_only()), TurnedScale(broken),
        PairScale(broken, ChainScale(2)), PairScale(ChainScale(2), TurnedScale(broken)),
        changed(ChainScale(2), none="1"), changed(ChainScale(2), unit="0"),
        TableScale(["a", "b"], [["b", "a"], ["a", "a"]], [["b", "b"], ["a", "b"]], none="a", unit="a"),
    ]
