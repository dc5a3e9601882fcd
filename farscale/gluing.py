"""Spaces glued along a part that they share."""

from farscale.errors import MixedSpaces, NotFitting
from farscale.maps import made_map
from farscale.told import closed_space


def _near_steps(space, names):
    """A step for each two points of a space, between the names that they get."""
    points = space.points()
    return [(names[x], names[y], space.near(x, y)) for x in points for y in points]


class Glued:
    """The targets of two maps, glued along the source of both."""

    def __init__(self, m, n):
        if m.source != n.source:
            raise MixedSpaces()
        scale = m.source.scale
        lefts = {point: f"l.{point}" for point in m.target.points()}
        rights = {point: f"r.{point}" for point in n.target.points()}
        joints = [(lefts[x], rights[y]) for x, y in zip(m.images(), n.images())]
        steps = _near_steps(m.target, lefts) + _near_steps(n.target, rights)
        steps = steps + [(x, y, scale.unit) for x, y in joints] + [(y, x, scale.unit) for x, y in joints]
        self.space = closed_space(scale, list(lefts.values()) + list(rights.values()), steps)
        self.left = made_map(m.target, self.space, list(lefts.values()))
        self.right = made_map(n.target, self.space, list(rights.values()))
        self._first = m
        self._second = n

    def fit(self, p, q):
        """The one map from the glued space that is p behind left and q behind right."""
        if p.source != self._first.target or q.source != self._second.target:
            raise NotFitting()
        if (self._first >> p) != (self._second >> q):
            raise NotFitting()
        return made_map(self.space, p.target, p.images() + q.images())
