"""What a scale lacks to be regular."""


def _join_same(scale, a):
    return scale.join(a, a) == a


def _join_swap(scale, a, b):
    return scale.join(a, b) == scale.join(b, a)


def _join_group(scale, a, b, c):
    return scale.join(scale.join(a, b), c) == scale.join(a, scale.join(b, c))


def _join_none(scale, a):
    return scale.join(a, scale.none) == a


def _then_group(scale, a, b, c):
    return scale.then(scale.then(a, b), c) == scale.then(a, scale.then(b, c))


def _then_unit(scale, a):
    return scale.then(scale.unit, a) == a and scale.then(a, scale.unit) == a


def _then_none(scale, a):
    return scale.then(scale.none, a) == scale.none and scale.then(a, scale.none) == scale.none


def _spread_left(scale, a, b, c):
    return scale.then(a, scale.join(b, c)) == scale.join(scale.then(a, b), scale.then(a, c))


def _spread_right(scale, a, b, c):
    return scale.then(scale.join(a, b), c) == scale.join(scale.then(a, c), scale.then(b, c))


# The rules in the order in which they are looked at, with the count of their grades.
RULES = (
    ("join-same", 1),
    ("join-swap", 2),
    ("join-group", 3),
    ("join-none", 1),
    ("then-group", 3),
    ("then-unit", 1),
    ("then-none", 1),
    ("spread-left", 3),
    ("spread-right", 3),
)

HOLDS = {
    "join-same": _join_same,
    "join-swap": _join_swap,
    "join-group": _join_group,
    "join-none": _join_none,
    "then-group": _then_group,
    "then-unit": _then_unit,
    "then-none": _then_none,
    "spread-left": _spread_left,
    "spread-right": _spread_right,
}


def _tuples(grades, count):
    """All tuples of so many grades; the first entry decides their order first."""
    found = [()]
    for _ in range(count):
        found = [(*told, grade) for told in found for grade in grades]
    return found


def first_fault(scale):
    """None for a regular scale, else the first rule that breaks and the first grades that break it."""
    for rule, count in RULES:
        holds = HOLDS[rule]
        for told in _tuples(scale.grades(), count):
            if not holds(scale, *told):
                return rule, told
    return None
