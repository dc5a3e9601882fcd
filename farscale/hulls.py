"""The hull of a space: its closed pairs, as the points of a space."""

from farscale.errors import NotClosed
from farscale.maps import made_map
from farscale.pairs import closed_pairs, pair_rows, pairs_of_points
from farscale.spaces import made_space


class Hull:
    """The hull of a space, with the map that leads the space into it."""

    def __init__(self, space):
        pairs = closed_pairs(space)
        points = [f"p{number}" for number in range(len(pairs))]
        rows = pair_rows(space.scale, [column for column, _ in pairs], len(space))
        self._pairs = pairs
        self._points_by_pair = dict(zip(pairs, points))
        self.base = space
        self.space = made_space(space.scale, points, rows)
        self.into = made_map(space, self.space, [self._points_by_pair[pair] for pair in pairs_of_points(space)])

    def pair_of(self, point):
        """The closed pair of a point of the hull."""
        return self._pairs[self.space.place(point)]

    def point_of(self, column, row):
        """The point of the hull that a closed pair is."""
        pair = (tuple(column), tuple(row))
        if pair not in self._points_by_pair:
            raise NotClosed()
        return self._points_by_pair[pair]
