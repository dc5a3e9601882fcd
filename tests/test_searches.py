"""Points 1 and 13: all maps between two spaces, and renamings."""

import itertools
import unittest

from farscale.errors import MixedScales, Stretched
from farscale.families import ChainScale, DistanceScale, StepScale, TurnedScale
from farscale.maps import SpaceMap
from farscale.searches import all_maps, renaming
from farscale.spaces import Space, part, turned
from farscale.told import told_space
from tests.at_hand import (beyond_unit, diamond, distances, growing, loops, moves, named, regular_scales, sides, single,
                           some_space, told_again)
from tests.checks import Checks


def maps_one_by_one(source, target):
    """All lists of images in order, each handed to SpaceMap."""
    found = []
    for images in itertools.product(target.points(), repeat=len(source)):
        try:
            found.append(SpaceMap(source, target, list(images)))
        except Stretched:
            pass
    return found


def reordered(space, order, names):
    """The space with its points in another order and by other names."""
    points = space.points()
    rows = [[space.near(points[i], points[j]) for j in order] for i in order]
    return Space(space.scale, names, rows)


class SearchTest(Checks):

    def check_mixed(self, first, second):
        for search in (all_maps, renaming):
            self.check_raises(MixedScales, {}, search, first, second)


class AllMaps(SearchTest):

    def check_all(self, source, target):
        found = all_maps(source, target)
        self.assertIs(type(found), list)
        self.assertEqual(found, maps_one_by_one(source, target))
        for m in found:
            self.assertIsInstance(m, SpaceMap)
            self.assertEqual([m(x) for x in source.points()], m.images())
        return [m.images() for m in found]

    def test_by_hand(self):
        source = Space(DistanceScale(5), ["a", "b"], [["0", "2"], ["5", "0"]])
        target = Space(DistanceScale(5), ["z", "y", "x"], [["0", "2", "3"], ["5", "0", "1"], ["4", "3", "0"]])
        self.assertEqual(self.check_all(source, target),
                         [["z", "z"], ["z", "y"], ["y", "y"], ["y", "x"], ["x", "x"]])

    def test_places_decide_not_names(self):
        source = Space(ChainScale(2), ["b", "a"], [["1", "0"], ["0", "1"]])
        target = Space(ChainScale(2), ["p", "o"], [["1", "0"], ["0", "1"]])
        self.assertEqual(self.check_all(source, target), [["p", "p"], ["p", "o"], ["o", "p"], ["o", "o"]])

    def test_one_by_one(self):
        for scale in regular_scales():
            for many, count in ((1, 1), (1, 4), (2, 3), (3, 2), (3, 3), (4, 2), (4, 1)):
                for seed in (1, 2):
                    self.check_all(some_space(scale, many, seed), some_space(scale, count, seed + 10))

    def test_spaces_to_themselves(self):
        for space in (distances(), sides(), loops(), moves(), turned(moves()), turned(sides())):
            self.assertIn(space.points(), self.check_all(space, space))

    def test_no_points(self):
        for scale in regular_scales():
            empty = Space(scale, [], [])
            for target in (empty, some_space(scale, 1), some_space(scale, 3)):
                self.assertEqual(self.check_all(empty, target), [[]])
            for source in (some_space(scale, 1), some_space(scale, 3)):
                self.assertEqual(self.check_all(source, empty), [])

    def test_no_map_at_all(self):
        near = Space(beyond_unit(), ["a"], [["many"]])
        self.assertEqual(self.check_all(near, Space(beyond_unit(), ["a", "b"], [["one", "no"], ["no", "one"]])), [])
        ring = told_space(growing(3), named(3), [("p0", "p1", "1"), ("p1", "p2", "0"), ("p2", "p0", "0")])
        self.assertEqual(self.check_all(ring, Space(growing(3), ["a"], [["0"]])), [])

    def test_as_many_ways_as_may_be(self):
        scale = ChainScale(2)
        apart = told_space(scale, named(14), [])
        pair = Space(scale, ["x", "y"], [["1", "0"], ["1", "1"]])
        found = all_maps(apart, pair)
        self.assertEqual([m.images() for m in found], [list(told) for told in itertools.product("xy", repeat=14)])
        row = told_space(scale, named(14), [(f"p{k}", f"p{k + 1}", "1") for k in range(13)])
        self.assertEqual([m.images() for m in all_maps(row, pair)],
                         [["x"] * 14] + [["y"] * k + ["x"] * (14 - k) for k in range(1, 15)])
        many = told_space(scale, named(40), [])
        self.assertEqual([m.images() for m in all_maps(many, part(pair, ["y"]))], [["y"] * 40])
        self.assertEqual([m.images() for m in all_maps(part(pair, ["y"]), many)], [[point] for point in named(40)])
        self.assertEqual(len(all_maps(pair, many)), 40)

    def test_mixed_scales(self):
        self.check_mixed(distances(), sides())
        self.check_mixed(moves(), turned(moves()))
        self.check_mixed(Space(ChainScale(2), [], []), Space(ChainScale(3), [], []))
        # There is no map and no renaming anyway: the counts differ.
        self.check_mixed(Space(ChainScale(2), ["a"], [["1"]]), Space(ChainScale(3), [], []))
        self.check_mixed(Space(ChainScale(2), ["a"], [["1"]]), Space(DistanceScale(0), ["a"], [["0"]]))

    def test_scales_told_again(self):
        scale = DistanceScale(3)
        source, target = some_space(scale, 2), some_space(told_again(scale), 3)
        self.assertTrue(self.check_all(source, target))
        self.assertIsNone(renaming(source, target))

    def test_the_list_belongs_to_the_caller(self):
        space = distances()
        found = all_maps(space, space)
        expected = [m.images() for m in found]
        found[0].images().reverse()
        found.clear()
        self.assertEqual([m.images() for m in all_maps(space, space)], expected)
        self.assertEqual(space, distances())


class Renamings(SearchTest):

    def check_renaming(self, first, second):
        """There is a renaming just if some order of the points keeps all grades; it is one."""
        m = renaming(first, second)
        orders = [list(told) for told in itertools.permutations(second.points())]
        kept = [images for images in orders if len(first) == len(second)
                and all(first.near(x, y) == second.near(p, q)
                        for (x, p), (y, q) in itertools.product(zip(first.points(), images), repeat=2))]
        self.assertEqual(m is not None, bool(kept))
        if m is not None:
            self.assertIn(m.images(), kept)
            self.assertEqual(m, SpaceMap(first, second, m.images()))
            self.assertIs(m.keeps(), True)
        return m

    def test_other_names_and_orders(self):
        for scale in regular_scales():
            for count in (1, 2, 3, 4, 5):
                space = some_space(scale, count, seed=count)
                order = list(range(count))[::2] + list(range(count))[1::2]
                other = reordered(space, order[::-1], [f"q{k}" for k in range(count)])
                self.assertIsNotNone(self.check_renaming(space, other))
                self.assertIsNotNone(self.check_renaming(other, space))

    def test_by_hand(self):
        other = Space(DistanceScale(9), ["x", "y", "z"], [["0", "far", "far"], ["5", "0", "2"], ["3", "4", "0"]])
        self.assertEqual(renaming(distances(), other).images(), ["y", "z", "x"])
        self.assertEqual(renaming(other, distances()).images(), ["c", "a", "b"])

    def test_the_same_points_in_another_order(self):
        space = distances()
        other = reordered(space, [2, 0, 1], ["c", "a", "b"])
        self.assertNotEqual(space, other)
        self.assertEqual(renaming(space, other).images(), ["a", "b", "c"])

    def test_points_that_are_alike_have_unlike_images(self):
        space = Space(ChainScale(2), ["a", "b", "c"], [["1", "1", "0"], ["1", "1", "0"], ["0", "0", "1"]])
        other = reordered(space, [2, 0, 1], ["x", "y", "z"])
        m = self.check_renaming(space, other)
        self.assertEqual((m("c"), sorted(m.images())), ("x", ["x", "y", "z"]))

    def test_no_points(self):
        for scale in regular_scales():
            empty = Space(scale, [], [])
            self.assertEqual(renaming(empty, empty), SpaceMap.same(empty))
            self.assertIsNone(renaming(empty, some_space(scale, 1)))
            self.assertIsNone(renaming(some_space(scale, 1), empty))

    def test_unlike_counts(self):
        alike = Space(ChainScale(2), ["a", "b"], [["1", "1"], ["1", "1"]])
        self.assertIsNone(renaming(alike, part(alike, ["a"])))
        self.assertIsNone(renaming(part(alike, ["a"]), alike))

    def test_none_though_there_are_maps(self):
        first = Space(DistanceScale(5), ["a", "b"], [["0", "2"], ["3", "0"]])
        second = Space(DistanceScale(5), ["a", "b"], [["0", "1"], ["3", "0"]])
        self.assertEqual(len(all_maps(first, second)), 3)
        self.assertIsNone(renaming(first, second))
        self.assertIsNone(renaming(second, first))

    def test_near_itself_counts(self):
        first = Space(beyond_unit(), ["a"], [["one"]])
        self.assertIsNone(renaming(first, Space(beyond_unit(), ["a"], [["many"]])))
        self.assertIsNotNone(renaming(first, Space(beyond_unit(), ["b"], [["one"]])))

    def test_turned_spaces(self):
        space = Space(ChainScale(2), ["a", "b"], [["1", "1"], ["0", "1"]])
        self.assertEqual(renaming(space, turned(space)).images(), ["b", "a"])
        self.assertIsNone(renaming(distances(), turned(distances())))

    def test_one_by_one(self):
        for scale in (single(), ChainScale(2), StepScale(1), diamond(), TurnedScale(beyond_unit())):
            for many, count in ((1, 1), (2, 2), (3, 3), (2, 3)):
                for seed in range(8):
                    self.check_renaming(some_space(scale, many, seed), some_space(scale, count, seed + 1))

    def test_the_spaces_are_left_alone(self):
        first, second = distances(), distances()
        renaming(first, second)
        self.assertEqual((first, second), (distances(), distances()))


if __name__ == "__main__":
    unittest.main()
