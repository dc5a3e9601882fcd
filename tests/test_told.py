"""Points 1, 10 and 11: told spaces, their paths and the judging of paths."""

import copy
import itertools
import unittest

from farscale.errors import BadName, BadPath, FarscaleError, TwiceTold, UnknownGrade, UnknownPoint
from farscale.families import ChainScale, DistanceScale, PairScale, StepScale, TurnedScale
from farscale.spaces import Space, turned
from farscale.told import judge_paths, paths_of, told_space
from tests.at_hand import (beyond_unit, closed_by_rounds, diamond, distances, growing, loops, moves, named,
                           regular_scales, sides, single, some_space, some_steps)
from tests.checks import Checks

POINTS = ["a", "b", "c"]


def product_of(scale, steps, path):
    """The product of the grades of a path, from unit on."""
    product = scale.unit
    for number in path:
        product = scale.then(product, steps[number][2])
    return product


def is_path(steps, path, x, y):
    """True if the numbers are those of steps that lead from x to y."""
    stations = [x] + [steps[number][1] for number in path]
    starts = [steps[number][0] for number in path] + [y]
    return stations == starts


def ring(points, grades):
    """Steps from each point to the next one and from the last one to the first one."""
    return [(x, y, grade) for x, y, grade in zip(points, points[1:] + points[:1], grades)]


class ToldTest(Checks):

    def check_told(self, scale, points, steps, rows):
        space = told_space(scale, points, steps)
        self.assertIsInstance(space, Space)
        self.assertIs(space.scale, scale)
        self.assertEqual((space.points(), space.rows()), (points, rows))
        # It is a space: the errors of point 8 are not raised.
        self.assertEqual(Space(scale, points, rows), space)

    def check_paths(self, scale, points, steps, x, y, near):
        """The told paths are paths, their products have the join near, and none can be left out."""
        paths = paths_of(scale, points, steps, x, y)
        for path in paths:
            self.assertIs(type(path), list)
            self.assertTrue(is_path(steps, path, x, y), (path, x, y))
        products = [product_of(scale, steps, path) for path in paths]
        self.assertEqual(scale.joined(products), near)
        self.assertEqual(judge_paths(scale, points, steps, x, y, paths), near)
        for left_out in range(len(paths)):
            rest = products[:left_out] + products[left_out + 1:]
            self.assertNotEqual(scale.joined(rest), near, paths)
        return paths


class ToldSpaces(ToldTest):

    def test_distances(self):
        steps = [("a", "b", "2"), ("b", "c", "3"), ("a", "c", "7"), ("b", "a", "4")]
        self.check_told(DistanceScale(9), POINTS, steps, [["0", "2", "5"], ["4", "0", "3"], ["far", "far", "0"]])

    def test_several_steps_between_two_points(self):
        steps = [("a", "b", "4"), ("a", "b", "2"), ("a", "b", "3"), ("b", "c", "far"), ("b", "c", "1")]
        self.check_told(DistanceScale(9), POINTS, steps, [["0", "2", "3"], ["far", "0", "1"], ["far", "far", "0"]])
        steps = [("a", "b", "east"), ("a", "b", "west"), ("b", "c", "west")]
        self.check_told(diamond(), POINTS, steps, [["both", "both", "west"], ["no", "both", "west"],
                                                   ["no", "no", "both"]])

    def test_a_join_of_paths_that_is_a_third_grade(self):
        steps = [("a", "b", "east"), ("b", "d", "both"), ("a", "c", "both"), ("c", "d", "west")]
        space = told_space(diamond(), ["a", "b", "c", "d"], steps)
        self.assertEqual(space.near("a", "d"), "both")
        self.assertEqual(space.near("a", "b"), "east")

    def test_the_order_of_the_product(self):
        steps = [("a", "b", "0010"), ("b", "c", "0100")]
        self.check_told(StepScale(2), POINTS, steps, moves().rows())
        back = [("c", "b", "0100"), ("b", "a", "0010")]
        self.assertEqual(told_space(TurnedScale(StepScale(2)), POINTS, back), turned(moves()))
        self.assertEqual(told_space(StepScale(2), POINTS, back).near("c", "a"), "1000")

    def test_no_points(self):
        for scale in regular_scales():
            self.check_told(scale, [], [], [])

    def test_no_steps(self):
        for scale in regular_scales():
            none, unit = scale.none, scale.unit
            self.check_told(scale, ["a"], [], [[unit]])
            self.check_told(scale, ["b", "a"], [], [[unit, none], [none, unit]])

    def test_steps_with_the_grade_none_tell_nothing(self):
        for scale in regular_scales():
            steps = [(x, y, scale.none) for x in POINTS for y in POINTS]
            self.assertEqual(told_space(scale, POINTS, steps), told_space(scale, POINTS, []))

    def test_steps_from_a_point_to_itself(self):
        self.check_told(DistanceScale(5), ["a"], [("a", "a", "3")], [["0"]])
        self.check_told(beyond_unit(), ["a", "b"], [("a", "a", "many")], [["many", "no"], ["no", "one"]])
        self.assertEqual(told_space(beyond_unit(), ["a", "b"], [("a", "a", "many")]), loops())
        self.check_told(StepScale(2), ["a"], [("a", "a", "0110")], [["1111"]])
        self.check_told(growing(5), ["a"], [("a", "a", "1")], [["5"]])

    def test_going_round_before_a_step(self):
        steps = [("a", "b", "one"), ("b", "b", "many"), ("b", "c", "one")]
        self.check_told(beyond_unit(), POINTS, steps, [["one", "many", "many"], ["no", "many", "many"],
                                                       ["no", "no", "one"]])

    def test_going_round_more_than_once(self):
        for most in (1, 2, 5, 14):
            steps = ring(POINTS, ["0", "1", "0"])
            self.check_told(growing(most), POINTS, steps, [[str(most)] * 3] * 3)
        steps = [("a", "a", "0100"), ("a", "b", "1001")]
        self.assertEqual(told_space(StepScale(2), ["a", "b"], steps).rows(), [["1101", "1101"], ["0000", "1001"]])

    def test_by_rounds(self):
        for scale in regular_scales():
            for count, many in ((1, 1), (2, 3), (3, 4), (4, 9), (5, 6), (6, 12)):
                points = named(count)
                steps = some_steps(scale, points, many, seed=many)
                self.check_told(scale, points, steps, closed_by_rounds(scale, points, steps))

    def test_the_grades_of_a_space_tell_it_again(self):
        for scale in regular_scales():
            space = some_space(scale, 4, seed=2)
            steps = [(x, y, space.near(x, y)) for x in space.points() for y in space.points()]
            self.assertEqual(told_space(scale, space.points(), steps), space)
            self.assertEqual(told_space(scale, space.points(), steps[::-1]), space)

    def test_points_keep_their_order(self):
        self.check_told(DistanceScale(5), ["c", "a"], [("a", "c", "1")], [["0", "far"], ["1", "0"]])

    def test_forty_points_and_two_hundred_steps(self):
        points = named(40)
        for scale in (DistanceScale(14), StepScale(2), growing(14), PairScale(ChainScale(4), diamond())):
            steps = some_steps(scale, points, 200, seed=40)
            space = told_space(scale, points, steps)
            self.assertEqual(space, Space(scale, points, space.rows()))
            for x, y, grade in steps:
                self.assertTrue(scale.within(grade, space.near(x, y)))
            for x, y in (("p0", "p39"), ("p7", "p7"), ("p39", "p12")):
                self.check_paths(scale, points, steps, x, y, space.near(x, y))

    def test_a_long_row_of_points(self):
        points = named(40)
        steps = [(x, y, "1") for x, y in zip(points, points[1:])]
        space = told_space(growing(14), points, steps)
        self.assertEqual([space.near("p0", p) for p in ("p0", "p1", "p13", "p14", "p39")], ["0", "1", "13", "14", "14"])
        self.assertEqual(space.near("p39", "p0"), "no")


class LeastSpaces(ToldTest):

    def spaces(self, scale, points):
        """All spaces on the points."""
        count = len(points)
        for told in itertools.product(scale.grades(), repeat=count * count):
            rows = [list(told[k * count:k * count + count]) for k in range(count)]
            try:
                yield Space(scale, points, rows)
            except FarscaleError:
                pass

    def test_the_least_of_all_that_have_the_steps(self):
        for scale in (single(), ChainScale(3), beyond_unit(), diamond(), growing(2), DistanceScale(1)):
            points = ["a", "b"]
            spaces = list(self.spaces(scale, points))
            for seed in range(12):
                steps = some_steps(scale, points, seed % 4, seed)
                space = told_space(scale, points, steps)
                others = [other for other in spaces
                          if all(scale.within(grade, other.near(x, y)) for x, y, grade in steps)]
                self.assertIn(space, others)
                for other in others:
                    for x, y in itertools.product(points, repeat=2):
                        self.assertTrue(scale.within(space.near(x, y), other.near(x, y)))


class ToldErrors(ToldTest):
    """The errors of points and steps, for all three functions; the later ones have more arguments."""

    def check(self, error, told, points, steps, scale=ChainScale(3)):
        self.check_raises(error, told, told_space, scale, points, steps)
        # x, y and the paths are wrong as well; they are looked at later.
        self.check_raises(error, told, paths_of, scale, points, steps, "zz", "Z")
        self.check_raises(error, told, judge_paths, scale, points, steps, "zz", "Z", [[99]])

    def test_names(self):
        for name in ("", "A", "1a", "a b", "l.a", "abcdefghijklm", "\u00e9"):
            self.check(BadName, {"name": name}, [name], [])
            self.check(BadName, {"name": name}, ["a", name, "a"], [("a", "x", "y")])
        self.check(TwiceTold, {"name": "a"}, ["a", "a"], [])
        self.check(TwiceTold, {"name": "a"}, ["a", "b", "a", "B"], [("x", "a", "y")])
        self.check(BadName, {"name": "B"}, ["B", "a", "a"], [("a", "a", "y")])

    def test_steps(self):
        points = ["a", "b"]
        self.check(UnknownPoint, {"name": "x"}, points, [("x", "y", "z")])
        self.check(UnknownPoint, {"name": "y"}, points, [("a", "y", "z")])
        self.check(UnknownGrade, {"name": "z"}, points, [("a", "b", "z")])
        self.check(UnknownGrade, {"name": "3"}, points, [("a", "b", "3")])
        self.check(UnknownGrade, {"name": ""}, points, [("a", "a", "")])
        self.check(UnknownPoint, {"name": "a"}, [], [("a", "a", "1")])

    def test_step_by_step(self):
        points = ["a", "b"]
        self.check(UnknownGrade, {"name": "z"}, points, [("a", "b", "1"), ("a", "b", "z"), ("x", "y", "w")])
        self.check(UnknownPoint, {"name": "y"}, points, [("b", "a", "1"), ("a", "y", "z"), ("x", "b", "1")])
        self.check(UnknownPoint, {"name": "x"}, points, [("x", "b", "1"), ("a", "y", "z")])
        self.check(UnknownGrade, {"name": "far"}, points, [("a", "b", "far"), ("a", "y", "1")])

    def test_ends(self):
        told = (ChainScale(3), ["a", "b"], [("a", "b", "1")])
        for x, y, name in (("x", "y", "x"), ("y", "x", "y"), ("x", "a", "x"), ("a", "x", "x"), ("b", "", "")):
            self.check_raises(UnknownPoint, {"name": name}, paths_of, *told, x, y)
            self.check_raises(UnknownPoint, {"name": name}, judge_paths, *told, x, y, [[99]])
        self.check_raises(UnknownPoint, {"name": "a"}, paths_of, ChainScale(3), [], [], "a", "b")


class Paths(ToldTest):

    def test_all_pairs_of_points(self):
        for scale in regular_scales():
            for count, many in ((1, 2), (2, 4), (3, 5), (4, 10)):
                points = named(count)
                steps = some_steps(scale, points, many, seed=3 * many)
                rows = closed_by_rounds(scale, points, steps)
                for (i, x), (j, y) in itertools.product(enumerate(points), repeat=2):
                    self.check_paths(scale, points, steps, x, y, rows[i][j])

    def test_one_path(self):
        steps = [("a", "c", "7"), ("b", "c", "3"), ("a", "b", "2"), ("b", "a", "4")]
        self.assertEqual(paths_of(DistanceScale(9), POINTS, steps, "a", "c"), [[2, 1]])
        self.assertEqual(paths_of(DistanceScale(9), POINTS, steps, "b", "a"), [[3]])

    def test_the_empty_path(self):
        steps = [("a", "b", "2"), ("a", "a", "1"), ("b", "a", "0")]
        self.assertEqual(paths_of(DistanceScale(9), POINTS, steps, "a", "a"), [[]])
        self.assertEqual(paths_of(DistanceScale(9), POINTS, [], "b", "b"), [[]])

    def test_none_has_no_paths(self):
        steps = [("a", "b", "4"), ("b", "c", "4"), ("c", "b", "far"), ("b", "b", "far")]
        self.assertEqual(paths_of(DistanceScale(5), POINTS, steps, "b", "a"), [])
        self.assertEqual(paths_of(DistanceScale(5), POINTS, steps, "a", "c"), [])
        self.assertEqual(paths_of(DistanceScale(5), POINTS, steps, "c", "b"), [])
        for scale in regular_scales():
            self.assertEqual(paths_of(scale, POINTS, [("a", "b", scale.none)], "a", "b"), [])
            self.assertEqual(paths_of(scale, POINTS, [], "c", "a"), [])

    def test_unit_may_be_none(self):
        self.assertEqual(paths_of(single(), POINTS, [("a", "a", "g")], "a", "a"), [])
        self.assertEqual(paths_of(ChainScale(1), POINTS, [("a", "b", "0")], "a", "b"), [])

    def test_a_join_that_no_single_path_has(self):
        steps = [("a", "b", "east"), ("b", "c", "both"), ("a", "c", "west"), ("a", "c", "no")]
        paths = self.check_paths(diamond(), POINTS, steps, "a", "c", "both")
        self.assertEqual(sorted(paths), [[0, 1], [2]])
        steps = [("a", "b", mark) for mark in ("1000", "0100", "0010", "0001")]
        paths = self.check_paths(StepScale(2), ["a", "b"], steps, "a", "b", "1111")
        self.assertEqual(sorted(paths), [[0], [1], [2], [3]])

    def test_paths_that_others_make_up_for(self):
        steps = [("a", "b", "1100"), ("a", "b", "0110"), ("a", "b", "0011"), ("a", "b", "1001")]
        paths = self.check_paths(StepScale(2), ["a", "b"], steps, "a", "b", "1111")
        self.assertEqual(len(paths), 2)
        # Either the last one alone or the other two: all three have one to spare.
        steps = [("a", "b", "east"), ("a", "b", "west"), ("a", "b", "both")]
        self.assertIn(sorted(self.check_paths(diamond(), ["a", "b"], steps, "a", "b", "both")), [[[0], [1]], [[2]]])

    def test_empty_path_and_others(self):
        steps = [("a", "b", "0100"), ("b", "a", "1001"), ("a", "a", "0010")]
        paths = self.check_paths(StepScale(2), ["a", "b"], steps, "a", "a", "1111")
        self.assertGreaterEqual(len(paths), 3)

    def test_going_round_more_than_once(self):
        for most in (1, 3, 14):
            steps = ring(POINTS, ["0", "1", "0"])
            paths = self.check_paths(growing(most), POINTS, steps, "b", "b", str(most))
            self.assertEqual([path[:3 * most] for path in paths], [[1, 2, 0] * most])
        paths = self.check_paths(growing(14), ["a"], [("a", "a", "1")], "a", "a", "14")
        self.assertEqual([path[:14] for path in paths], [[0] * 14])

    def test_round_forty_points(self):
        points = named(40)
        steps = ring(points, ["1"] + ["0"] * 39)
        paths = self.check_paths(growing(14), points, steps, "p1", "p0", "14")
        self.assertEqual(len(paths), 1)
        self.assertGreaterEqual(len(paths[0]), 14 * 40 - 1)

    def test_numbers_of_steps_that_are_told_twice(self):
        steps = [("a", "b", "1"), ("a", "b", "1"), ("b", "c", "1"), ("b", "c", "1")]
        paths = self.check_paths(ChainScale(2), POINTS, steps, "a", "c", "1")
        self.assertEqual(len(paths), 1)


class JudgedPaths(ToldTest):

    STEPS = [("a", "b", "2"), ("b", "c", "3"), ("c", "a", "1"), ("a", "a", "1"), ("a", "c", "7")]

    def judged(self, x, y, paths):
        return judge_paths(DistanceScale(9), POINTS, self.STEPS, x, y, paths)

    def check_bad(self, number, x, y, paths):
        self.check_raises(BadPath, {"number": number}, self.judged, x, y, paths)

    def test_the_join_of_the_products(self):
        self.assertEqual(self.judged("a", "c", [[4]]), "7")
        self.assertEqual(self.judged("a", "c", [[0, 1]]), "5")
        self.assertEqual(self.judged("a", "c", [[4], [0, 1]]), "5")
        self.assertEqual(self.judged("a", "c", [[3, 3, 4], [3, 3, 0, 1]]), "7")
        self.assertEqual(self.judged("a", "c", [[4], [4], [3, 3, 3, 4]]), "7")
        self.assertEqual(self.judged("a", "a", [[0, 1, 2]]), "6")

    def test_a_join_that_is_a_third_grade(self):
        steps = [("a", "b", "east"), ("a", "b", "west"), ("b", "a", "east")]
        self.assertEqual(judge_paths(diamond(), ["a", "b"], steps, "a", "b", [[0], [1]]), "both")
        self.assertEqual(judge_paths(diamond(), ["a", "b"], steps, "a", "b", [[0, 2, 0], [1, 2, 1]]), "east")

    def test_the_order_of_the_product(self):
        steps = [("a", "b", "0010"), ("b", "c", "0100"), ("b", "a", "0100")]
        self.assertEqual(judge_paths(StepScale(2), POINTS, steps, "a", "c", [[0, 1]]), "0001")
        self.assertEqual(judge_paths(StepScale(2), POINTS, steps, "b", "b", [[2, 0]]), "1000")

    def test_no_paths_and_the_empty_path(self):
        self.assertEqual(self.judged("a", "c", []), "far")
        self.assertEqual(self.judged("b", "b", []), "far")
        self.assertEqual(self.judged("b", "b", [[]]), "0")
        self.assertEqual(judge_paths(beyond_unit(), ["a"], [("a", "a", "many")], "a", "a", [[]]), "one")
        self.assertEqual(judge_paths(beyond_unit(), ["a"], [("a", "a", "many")], "a", "a", [[], [0, 0]]), "many")

    def test_long_paths(self):
        self.assertEqual(self.judged("a", "a", [[3] * 20000]), "far")
        steps = ring(["a", "b"], ["0", "1"])
        self.assertEqual(judge_paths(growing(14), ["a", "b"], steps, "a", "a", [[0, 1] * 10000]), "14")
        self.assertEqual(judge_paths(growing(14), ["a", "b"], steps, "a", "b", [[0, 1] * 9 + [0]]), "9")

    def test_what_is_no_path(self):
        for path in ([], [0], [1], [4, 0], [0, 4], [1, 0], [4, 4], [0, 1, 2], [0, 0, 1], [2, 4], [0, 2], [0, 1, 1]):
            self.check_bad(0, "a", "c", [path])
        for path in ([0], [4], [1, 2], [0, 1, 2, 0]):
            self.check_bad(0, "a", "a", [path])

    def test_numbers_that_no_step_has(self):
        for path in ([5], [-1], [99], [-5, -4], [0, -4], [4, 5], [3, -1], [-2, 4], [10 ** 20]):
            self.check_bad(0, "a", "c", [path])
        self.check_raises(BadPath, {"number": 0}, judge_paths, ChainScale(2), ["a"], [], "a", "a", [[0]])
        self.check_raises(BadPath, {"number": 0}, judge_paths, ChainScale(2), ["a"], [], "a", "a", [[-1]])

    def test_the_first_that_is_no_path(self):
        self.check_bad(1, "a", "c", [[4], [], [0, 1]])
        self.check_bad(2, "a", "c", [[4], [0, 1], [0], [99]])
        self.check_bad(0, "a", "c", [[99], [4], [0]])
        self.check_bad(3, "b", "b", [[], [1, 2, 0], [], [1], [2]])

    def test_other_errors_come_first(self):
        told = (DistanceScale(9), POINTS)
        self.check_raises(UnknownPoint, {"name": "y"}, judge_paths, *told, self.STEPS, "a", "y", [[99]])
        self.check_raises(UnknownGrade, {"name": "z"}, judge_paths, *told, [("a", "b", "z")], "a", "y", [[99]])


class ListsOfTheCaller(ToldTest):

    def test_what_is_handed_in_is_left_alone(self):
        points = named(4)
        for scale in (DistanceScale(9), StepScale(2), diamond(), growing(9)):
            steps = some_steps(scale, points, 9, seed=1)
            paths = paths_of(scale, points, steps, "p0", "p1")
            told = copy.deepcopy((points, steps, paths))
            told_space(scale, points, steps)
            paths_of(scale, points, steps, "p0", "p3")
            judge_paths(scale, points, steps, "p0", "p1", paths)
            self.assertEqual((points, steps, paths), told)

    def test_changes_afterwards(self):
        points, steps = ["a", "b", "c"], [("a", "b", "2"), ("b", "c", "3"), ("b", "a", "4")]
        space = told_space(DistanceScale(9), points, steps)
        points.reverse()
        steps[0] = ("a", "b", "0")
        steps.append(("c", "a", "0"))
        self.assertEqual(space, distances())
        space.rows()[0][1] = "9"
        space.points().append("d")
        self.assertEqual(space, distances())

    def test_paths_belong_to_the_caller(self):
        steps = [("a", "b", "east"), ("b", "c", "both"), ("a", "c", "west")]
        expected = paths_of(diamond(), POINTS, steps, "a", "c")
        paths = paths_of(diamond(), POINTS, steps, "a", "c")
        paths[0].append(7)
        paths.pop()
        self.assertEqual(paths_of(diamond(), POINTS, steps, "a", "c"), expected)

    def test_a_space_that_is_told_by_hand(self):
        steps = [("a", "b", "east"), ("a", "c", "both"), ("c", "a", "west"), ("b", "b", "no")]
        self.assertEqual(told_space(diamond(), POINTS, steps).near("c", "b"), "no")
        self.assertEqual(told_space(diamond(), POINTS, steps), sides())


if __name__ == "__main__":
    unittest.main()
