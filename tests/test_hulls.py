"""Points 1 and 19: hulls."""

import itertools
import unittest

from farscale.errors import NotClosed, TooMany, UnknownPoint
from farscale.families import ChainScale, DistanceScale, StepScale
from farscale.hulls import Hull
from farscale.maps import SpaceMap
from farscale.pairs import bare_pair, closed_pairs
from farscale.searches import renaming
from farscale.spaces import Space, made_space, part, turned
from tests.at_hand import (alike_points, crowns, distances, further_names, loops, met, moves, named, over_by_words,
                           pair_of_point, pairs_by_words, regular_scales, sides, single, single_point, small_scales,
                           some_space, under_by_words)
from tests.checks import Checks


def apart(count):
    """So many points over a chain of two grades with nothing between them."""
    return Space(ChainScale(2), named(count), [["1" if i == k else "0" for k in range(count)] for i in range(count)])


class HullTest(Checks):

    def check_hull(self, space):
        """All of point 19 for a space with few closed pairs."""
        scale, hull, pairs = space.scale, Hull(space), closed_pairs(space)
        self.assertIs(hull.base, space)
        self.assertEqual(hull.space.points(), named(len(pairs)))
        self.assertEqual([hull.pair_of(point) for point in hull.space.points()], pairs)
        self.assertEqual([hull.point_of(*pair) for pair in pairs], hull.space.points())
        self.assertEqual(hull.space.rows(), [[met(scale, [under_by_words(scale, a, b) for a, b in zip(f, other)])
                                              for other, _ in pairs] for f, _ in pairs])
        self.assertEqual(hull.space.rows(), [[met(scale, [over_by_words(scale, a, b) for a, b in zip(g, other)])
                                              for _, other in pairs] for _, g in pairs])
        # It is a space, and there is a map to it: nothing of points 8 and 12 is broken.
        self.assertIs(type(hull.space), Space)
        self.assertEqual(Space(scale, hull.space.points(), hull.space.rows()), hull.space)
        self.check_same(hull.into, SpaceMap(space, hull.space, hull.into.images()))
        self.assertIs(hull.into.source, space)
        self.assertIs(hull.into.target, hull.space)
        self.assertTrue(hull.into.keeps())
        for point in space.points():
            self.assertEqual(hull.pair_of(hull.into(point)), pair_of_point(space, point))
        return hull

    def check_unlike(self, hull):
        for x, y in itertools.combinations(hull.space.points(), 2):
            self.assertFalse(hull.space.alike(x, y))


class Hulls(HullTest):

    def test_all_scales(self):
        for scale in regular_scales():
            for count in (0, 1, 2):
                space = some_space(scale, count, seed=2)
                if len(pairs_by_words(space)) > 70:
                    continue
                self.check_unlike(self.check_hull(space))

    def test_spaces_by_hand(self):
        for space in (sides(), loops(), turned(loops()), further_names(), alike_points(), part(moves(), ["b"]),
                      turned(part(moves(), ["b"])), part(distances(), ["a", "b"])):
            self.check_unlike(self.check_hull(space))

    def test_two_points_apart(self):
        hull = self.check_hull(apart(2))
        self.assertEqual(hull.space.rows(), [["1", "1", "1", "1"], ["0", "1", "0", "1"],
                                             ["0", "0", "1", "1"], ["0", "0", "0", "1"]])
        self.assertEqual(hull.into.images(), ["p2", "p1"])
        self.assertEqual(hull.pair_of("p1"), (("0", "1"), ("0", "1")))

    def test_distances_fill_up(self):
        # Between two points at distance 2 both ways there are all that stand between, and more.
        hull = self.check_hull(Space(DistanceScale(2), ["a", "b"], [["0", "2"], ["2", "0"]]))
        self.assertEqual([hull.pair_of(point) for point in hull.space.points()],
                         [((str(i), str(k)), (str(2 - k), str(2 - i))) for i in range(3) for k in range(3)])
        self.assertEqual(hull.into.images(), ["p2", "p6"])
        self.assertEqual((hull.space.near("p2", "p6"), hull.space.near("p4", "p6")), ("2", "1"))

    def test_unlike_products(self):
        one = single_point(StepScale(2))
        hull = self.check_hull(one)
        self.assertEqual(len(hull.space), 16)
        ahead, back = hull.point_of(["0001"], ["1101"]), hull.point_of(["0011"], ["0101"])
        self.assertEqual((hull.space.near(ahead, back), hull.space.near(back, ahead)), ("1111", "0101"))

    def test_no_points(self):
        for scale in regular_scales():
            hull = self.check_hull(Space(scale, [], []))
            self.assertEqual(hull.space.rows(), [[scale.joined(scale.grades())]])
            self.assertEqual((hull.into.images(), hull.pair_of("p0"), hull.point_of([], ())), ([], ((), ()), "p0"))

    def test_one_point(self):
        for scale in (single(), ChainScale(4), DistanceScale(5)):
            hull = self.check_hull(single_point(scale))
            self.assertEqual((hull.space.points(), hull.into.images()), (["p0"], ["p0"]))

    def test_points_that_are_alike_fall_together(self):
        hull = self.check_hull(alike_points())
        images = hull.into.images()
        self.assertEqual((images[0] == images[2], images[0] == images[1]), (True, False))
        self.check_unlike(hull)
        hull = self.check_hull(Space(ChainScale(3), ["a", "b", "c"], [["2"] * 3] * 3))
        self.assertEqual(hull.into.images(), ["p0"] * 3)

    def test_one_grade(self):
        hull = self.check_hull(some_space(single(), 4))
        self.assertEqual(hull.into.images(), ["p0"] * 4)

    def test_two_hundred_and_more(self):
        space = crowns(10)
        hull = Hull(space)
        self.assertEqual((len(hull.space), hull.space.points()[-1]), (200, "p199"))
        self.assertEqual(hull.pair_of("p199"), (("1",) * 36, ("0",) * 36))
        for point in space.points():
            self.assertEqual(hull.pair_of(hull.into(point)), pair_of_point(space, point))
        self.assertTrue(hull.into.keeps())
        self.check_raises(TooMany, {}, Hull, crowns(11))
        self.check_raises(TooMany, {}, Hull, Space(DistanceScale(14), ["a", "b"], [["0", "far"], ["far", "0"]]))

    def test_turned_spaces(self):
        for space in (sides(), loops(), alike_points(), further_names(), single_point(StepScale(2))):
            first, second = turned(Hull(space).space), Hull(turned(space)).space
            self.assertEqual(len(first), len(second))
            self.assertTrue(renaming(first, second).keeps())


class HullsOfHulls(HullTest):

    def test_nothing_is_added(self):
        for scale in small_scales():
            for count in (0, 1, 2, 3):
                first = Hull(some_space(scale, count, seed=1))
                second = Hull(first.space)
                self.assertIsNone(bare_pair(first.space))
                self.assertEqual(len(second.space), len(first.space))
                self.assertEqual(sorted(second.into.images()), sorted(second.space.points()))
                self.assertTrue(second.into.keeps())

    def test_many_grades(self):
        for space in (single_point(StepScale(2)), Space(DistanceScale(5), ["a", "b"], [["0", "4"], ["2", "0"]])):
            first = Hull(space)
            second = self.check_hull(first.space)
            self.assertEqual(len(second.space), len(first.space))
            third = Hull(second.space)
            self.assertTrue((first.into >> second.into >> third.into).keeps())

    def test_two_hundred(self):
        first = Hull(crowns(10))
        self.assertIsNone(bare_pair(first.space))
        self.assertEqual(len(Hull(first.space).space), 200)


class PointsAndPairs(HullTest):

    def test_lists_and_tuples(self):
        hull = Hull(apart(2))
        column, row = ("0", "1"), ("0", "1")
        for f, g in itertools.product((column, list(column)), (row, list(row))):
            self.assertEqual(hull.point_of(f, g), "p1")
        self.assertEqual(hull.pair_of("p1"), (column, row))
        self.assertEqual([type(half) for half in hull.pair_of("p1")], [tuple, tuple])

    def test_unknown_points(self):
        hull = Hull(Space(ChainScale(2), ["a", "b"], [["1", "0"], ["0", "1"]]))
        for name in ("a", "p4", "p", "", "p00", "0", "p-1"):
            self.check_raises(UnknownPoint, {"name": name}, hull.pair_of, name)

    def test_what_is_no_closed_pair(self):
        hull = Hull(apart(2))
        right = closed_pairs(apart(2))
        for column, row in itertools.product(itertools.product("01", repeat=2), repeat=2):
            if (column, row) in right:
                self.assertEqual(hull.pair_of(hull.point_of(column, row)), (column, row))
            else:
                self.check_raises(NotClosed, {}, hull.point_of, column, row)
                self.check_raises(NotClosed, {}, hull.point_of, list(column), list(row))

    def test_columns_and_rows_of_other_lengths_or_grades(self):
        hull = Hull(apart(2))
        for column, row in (([], []), (["0"], ["1"]), (["0", "0", "0"], ["1", "1", "1"]), (["0", "1"], ["0"]),
                            (["0", "1"], ["0", "1", "0"]), (["x", "1"], ["0", "1"]), (["0", "1"], ["0", "x"]),
                            ([], ["0", "1"]), (["0", "1"], [])):
            self.check_raises(NotClosed, {}, hull.point_of, column, row)
        self.check_raises(NotClosed, {}, Hull(apart(0)).point_of, ["1"], ["1"])

    def test_a_closed_pair_of_another_space(self):
        hull, other = Hull(apart(2)), Hull(Space(ChainScale(2), ["a", "b"], [["1", "1"], ["0", "1"]]))
        self.check_raises(NotClosed, {}, hull.point_of, *other.pair_of("p0"))
        self.check_raises(NotClosed, {}, hull.point_of, *Hull(apart(3)).pair_of("p0"))
        self.check_raises(NotClosed, {}, hull.point_of, *Hull(distances()).pair_of("p0"))
        self.check_raises(NotClosed, {}, hull.point_of, (), ())

    def test_what_is_told_belongs_to_the_caller(self):
        space = apart(2)
        hull = Hull(space)
        hull.space.points().clear()
        hull.space.rows().clear()
        hull.into.images().clear()
        column, row = ["0", "1"], ["0", "1"]
        hull.point_of(column, row)
        self.assertEqual((column, row), (["0", "1"], ["0", "1"]))
        self.assertEqual((space, hull.space, hull.into), (apart(2), Hull(apart(2)).space, Hull(apart(2)).into))

    def test_points_with_further_names(self):
        hull = self.check_hull(made_space(ChainScale(2), ["l.p0", "p0", "r.p0"], [["1", "0", "0"], ["1", "1", "0"],
                                                                                  ["0", "0", "1"]]))
        self.assertEqual(hull.pair_of(hull.into("l.p0"))[1], ("1", "0", "0"))
        self.check_raises(UnknownPoint, {"name": "l.p0"}, hull.pair_of, "l.p0")


if __name__ == "__main__":
    unittest.main()
