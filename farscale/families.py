"""Scales of one family each, and scales of scales."""

from farscale.errors import BadScale
from farscale.scales import Scale, check_count


class ChainScale(Scale):
    """The grades 0, 1 and so on: the join is the greater number, the product the lesser one."""

    def __init__(self, count):
        check_count(count)
        names = [str(k) for k in range(count)]
        joins = [[names[max(i, j)] for j in range(count)] for i in range(count)]
        products = [[names[min(i, j)] for j in range(count)] for i in range(count)]
        Scale.__init__(self, names, joins, products, names[0], names[-1])


class DistanceScale(Scale):
    """Distances up to a number, and far: the join is the lesser one, the product the sum."""

    def __init__(self, most):
        if most < 0:
            raise BadScale()
        check_count(most + 2)
        # far stands at the place most + 1: it is greater than each number,
        # and each sum above most is cut to it.
        far = most + 1
        names = [str(k) for k in range(far)] + ["far"]
        places = range(far + 1)
        joins = [[names[min(i, j)] for j in places] for i in places]
        products = [[names[min(i + j, far)] for j in places] for i in places]
        Scale.__init__(self, names, joins, products, "far", "0")


class StepScale(Scale):
    """The relations on one or two states, each named by its rows of 0 and 1."""

    def __init__(self, states):
        if states not in (1, 2):
            raise BadScale()
        names = _relations(states)
        joins = [[_union(a, b) for b in names] for a in names]
        products = [[_composite(a, b, states) for b in names] for a in names]
        Scale.__init__(self, names, joins, products, names[0], _identity(states))


def _relations(states):
    """The names of all relations, in order."""
    names = [""]
    for _ in range(states * states):
        names = [name + mark for name in names for mark in "01"]
    return names


def _mark(related):
    return "1" if related else "0"


def _union(first, second):
    return "".join([_mark("1" in (a, b)) for a, b in zip(first, second)])


def _composite(first, second, states):
    """The relation that goes by the first one, then by the second one."""
    places = range(states)
    rows = [first[states * i:states * i + states] for i in places]
    columns = [second[k::states] for k in places]
    return "".join([_mark(_share(row, column)) for row in rows for column in columns])


def _share(row, column):
    """True if some state is marked in both."""
    return any([a == "1" and b == "1" for a, b in zip(row, column)])


def _identity(states):
    places = range(states)
    return "".join([_mark(i == k) for i in places for k in places])


class PairScale(Scale):
    """Pairs of a grade of one scale and one of another, worked out half by half."""

    def __init__(self, left, right):
        check_count(len(left.grades()) * len(right.grades()))
        self.left = left
        self.right = right
        pairs = [(a, b) for a in left.grades() for b in right.grades()]
        names = [_pair(a, b) for a, b in pairs]
        joins = [[_pair(left.join(a, c), right.join(b, d)) for c, d in pairs] for a, b in pairs]
        products = [[_pair(left.then(a, c), right.then(b, d)) for c, d in pairs] for a, b in pairs]
        none = _pair(left.none, right.none)
        unit = _pair(left.unit, right.unit)
        Scale.__init__(self, names, joins, products, none, unit)


def _pair(a, b):
    return f"{a}/{b}"


class TurnedScale(Scale):
    """A scale with its products the other way round."""

    def __init__(self, inner):
        self.inner = inner
        names = inner.grades()
        joins = [[inner.join(a, b) for b in names] for a in names]
        products = [[inner.then(b, a) for b in names] for a in names]
        Scale.__init__(self, names, joins, products, inner.none, inner.unit)
