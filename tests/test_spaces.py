"""Points 1 and 7 to 9: spaces, what makes none, turned spaces and parts."""

import copy
import itertools
import random
import unittest

from farscale.errors import (BadName, BadTable, FarscaleError, NameMissing, NotSame, NotThrough, TwiceTold,
                             UnknownGrade, UnknownPoint)
from farscale.families import ChainScale, DistanceScale, PairScale, StepScale, TurnedScale
from farscale.spaces import Space, made_space, part, turned
from tests.at_hand import (beyond_unit, closed_by_rounds, diamond, distances, growing, loops, moves, named,
                           regular_scales, sides, single, some_space, some_steps, told_again)
from tests.checks import Checks


class OrdinarySpaces(Checks):

    def test_what_was_handed_in(self):
        for scale in regular_scales():
            for count in (0, 1, 2, 3, 5):
                points = named(count)
                rows = closed_by_rounds(scale, points, some_steps(scale, points, 2 * count, count))
                space = Space(scale, points, rows)
                self.assertIs(space.scale, scale)
                self.assertEqual((space.points(), space.rows()), (points, rows))
                for i, j in itertools.product(range(count), repeat=2):
                    self.assertEqual(space.near(points[i], points[j]), rows[i][j])

    def test_near_goes_by_row_then_column(self):
        space = distances()
        self.assertEqual(space.near("a", "b"), "2")
        self.assertEqual(space.near("b", "a"), "4")
        self.assertEqual(space.near("c", "a"), "far")
        self.assertEqual(moves().near("a", "b"), "0010")
        self.assertEqual(moves().near("b", "a"), "0000")

    def test_points_keep_their_order(self):
        rows = [["0", "1"], ["2", "0"]]
        self.assertEqual(Space(DistanceScale(3), ["z", "a"], rows).points(), ["z", "a"])
        self.assertEqual(Space(DistanceScale(3), ["z", "a"], rows).near("z", "a"), "1")

    def test_near_itself_beyond_the_unit(self):
        space = loops()
        self.assertEqual([space.near("a", "a"), space.near("b", "b")], ["many", "one"])
        self.assertEqual(Space(StepScale(2), ["a"], [["1111"]]).near("a", "a"), "1111")

    def test_no_points(self):
        for scale in regular_scales():
            space = Space(scale, [], [])
            self.assertEqual((space.points(), space.rows(), len(space)), ([], [], 0))
            self.assertIs("p0" in space, False)

    def test_one_point(self):
        for scale in regular_scales():
            space = Space(scale, ["only"], [[scale.unit]])
            self.assertEqual((space.points(), space.rows(), len(space)), (["only"], [[scale.unit]], 1))
            self.assertIs(space.alike("only", "only"), True)

    def test_in_and_len_speak_of_points(self):
        space = distances()
        self.assertEqual(len(space), 3)
        for point in ("a", "b", "c"):
            self.assertIs(point in space, True)
        for name in ("d", "", "A", "ab", "0", "far"):
            self.assertIs(name in space, False)

    def test_forty_points(self):
        points = named(40)
        rows = [[str(min(14, abs(i - j))) for j in range(40)] for i in range(40)]
        rows = [["far" if abs(i - j) > 14 else rows[i][j] for j in range(40)] for i in range(40)]
        space = Space(DistanceScale(14), points, rows)
        self.assertEqual((len(space), space.near("p3", "p17"), space.near("p39", "p24")), (40, "14", "far"))
        self.assertEqual(space.rows(), rows)

    def test_names_at_the_edge(self):
        names = ["a", "z", "a0", "z9", "abcdefghijkl", "mnopqrstuvwx", "y0123456789z"]
        rows = [["1" if x == y else "0" for y in names] for x in names]
        self.assertEqual(Space(ChainScale(2), names, rows).points(), names)


class AlikePoints(Checks):

    def test_near_enough_both_ways(self):
        space = Space(DistanceScale(2), ["a", "b", "c"], [["0", "0", "1"], ["0", "0", "1"], ["0", "0", "0"]])
        self.assertIs(space.alike("a", "b"), True)
        self.assertIs(space.alike("b", "a"), True)
        self.assertIs(space.alike("a", "c"), False)
        self.assertIs(space.alike("c", "a"), False)
        self.assertIs(space.alike("c", "c"), True)

    def test_nearer_than_the_unit_is_alike(self):
        near = Space(beyond_unit(), ["a", "b"], [["many", "many"], ["many", "many"]])
        self.assertIs(near.alike("a", "b"), True)

    def test_by_its_words(self):
        for scale in regular_scales():
            space = some_space(scale, 4, seed=5)
            for x, y in itertools.product(space.points(), repeat=2):
                both = (space.near(x, y), space.near(y, x))
                expected = all(scale.join(scale.unit, grade) == grade for grade in both)
                self.assertIs(space.alike(x, y), expected)


class PointsThatThereAreNot(Checks):

    def test_first_x_then_y(self):
        for space in (distances(), loops(), turned(moves()), part(sides(), ["a"])):
            for call in (space.near, space.alike):
                self.check_raises(UnknownPoint, {"name": "x"}, call, "x", "a")
                self.check_raises(UnknownPoint, {"name": "x"}, call, "a", "x")
                self.check_raises(UnknownPoint, {"name": "x"}, call, "x", "y")
                self.check_raises(UnknownPoint, {"name": "y"}, call, "y", "x")
                self.check_raises(UnknownPoint, {"name": ""}, call, "", "a")
        self.assertTrue(issubclass(UnknownPoint, NameMissing))

    def test_no_points_at_all(self):
        space = Space(ChainScale(2), [], [])
        self.check_raises(UnknownPoint, {"name": "a"}, space.near, "a", "b")
        self.check_raises(UnknownPoint, {"name": "b"}, space.alike, "b", "a")

    def test_alike_looks_at_both_before_grades(self):
        # a is not near to b, so that one way would be enough to say no.
        space = Space(ChainScale(2), ["a", "b"], [["1", "0"], ["0", "1"]])
        self.check_raises(UnknownPoint, {"name": "z"}, space.alike, "a", "z")


class WrongNames(Checks):

    def check_bad(self, name):
        scale = ChainScale(2)
        self.check_raises(BadName, {"name": name}, Space, scale, [name], [["1"]])
        self.check_raises(BadName, {"name": name}, Space, scale, ["ok", name], [["1", "0"], ["0", "1"]])

    def test_no_names(self):
        for name in ("", "A", "aB", "1", "1a", "0", "a b", " ", " a", "a ", "a.b", "l.a", "a/b", "a_b", "a-b", "a\n",
                     "abcdefghijklm", "a" * 40, "\u00e9", "a\u00e9", "a\u00b2", "a\u0663", "~", "`", "{", "@", "["):
            self.check_bad(name)

    def test_a_name_twice(self):
        scale = ChainScale(2)
        told = {"name": "a"}
        self.check_raises(TwiceTold, told, Space, scale, ["a", "a"], [["1", "1"], ["1", "1"]])
        self.check_raises(TwiceTold, told, Space, scale, ["a", "b", "c", "a", "b"], [])
        self.check_raises(TwiceTold, {"name": "b"}, Space, scale, ["a", "b", "b", "a"], [])

    def test_names_are_looked_at_point_by_point(self):
        scale = ChainScale(2)
        self.check_raises(TwiceTold, {"name": "a"}, Space, scale, ["a", "a", "B"], [])
        self.check_raises(BadName, {"name": "B"}, Space, scale, ["a", "B", "a"], [])
        self.check_raises(BadName, {"name": "B"}, Space, scale, ["B", "B", "a", "a"], [])
        self.check_raises(BadName, {"name": "B"}, Space, scale, ["B", "C"], [])

    def test_names_come_before_rows(self):
        scale = ChainScale(2)
        self.check_raises(BadName, {"name": "B"}, Space, scale, ["B"], [["x"]])
        self.check_raises(BadName, {"name": "B"}, Space, scale, ["B"], [["0"]])
        self.check_raises(BadName, {"name": "B"}, Space, scale, ["B"], [["0", "0"]])
        self.check_raises(TwiceTold, {"name": "a"}, Space, scale, ["a", "a"], [["x"]])
        self.check_raises(TwiceTold, {"name": "a"}, Space, scale, ["a", "a"], [["0", "1"], ["1", "x"]])


class WrongRows(Checks):

    def check_bad(self, points, rows):
        self.check_raises(BadTable, {}, Space, ChainScale(3), points, rows)

    def test_too_few_or_many(self):
        for points, rows in ((["a"], []), (["a"], [[]]), ([], [[]]), ([], [["2"]]), (["a"], [["2", "2"]]),
                             (["a"], [["2"], ["2"]]), (["a", "b"], [["2", "2"]]), (["a", "b"], [["2", "2"], ["2"]]),
                             (["a", "b"], [["2"], ["2", "2"]]), (["a", "b"], [["2", "2", "2"], ["2", "2"]]),
                             (["a", "b"], [["2", "2", "2"], ["2"]]), (["a", "b"], [["2", "2"]] * 3)):
            self.check_bad(points, rows)

    def test_they_come_before_grades(self):
        self.check_bad(["a", "b"], [["x", "y"]])
        self.check_bad(["a", "b"], [["x", "0"], ["2"]])
        self.check_bad(["a", "b"], [["0", "0"], ["0", "0", "0"]])

    def test_the_first_entry_that_is_no_grade(self):
        scale = ChainScale(3)

        def check(name, rows):
            self.check_raises(UnknownGrade, {"name": name}, Space, scale, ["a", "b"], rows)

        check("x", [["x", "y"], ["z", "w"]])
        check("y", [["2", "y"], ["z", "w"]])
        check("z", [["2", "2"], ["z", "w"]])
        check("w", [["2", "2"], ["2", "w"]])
        check("", [["2", "2"], ["2", ""]])
        check("3", [["2", "2"], ["3", "2"]])
        check("far", [["2", "far"], ["x", "2"]])

    def test_it_comes_before_what_does_not_fit(self):
        scale = ChainScale(3)
        self.check_raises(UnknownGrade, {"name": "x"}, Space, scale, ["a", "b"], [["0", "0"], ["0", "x"]])
        self.check_raises(UnknownGrade, {"name": "x"}, Space, scale, ["a", "b", "c"],
                          [["2", "2", "0"], ["0", "2", "2"], ["x", "0", "2"]])

    def test_a_grade_of_another_scale(self):
        self.check_raises(UnknownGrade, {"name": "far"}, Space, ChainScale(3), ["a", "b"], [["2", "far"], ["0", "2"]])
        self.check_raises(UnknownGrade, {"name": "2"}, Space, DistanceScale(1), ["a", "b"], [["0", "2"], ["0", "0"]])


class GradesThatDoNotFit(Checks):

    def test_not_near_enough_to_itself(self):
        scale = DistanceScale(3)
        self.check_raises(NotSame, {"x": "a"}, Space, scale, ["a"], [["1"]])
        self.check_raises(NotSame, {"x": "b"}, Space, scale, ["a", "b", "c"],
                          [["0", "1", "1"], ["1", "1", "1"], ["1", "1", "far"]])
        self.check_raises(NotSame, {"x": "a"}, Space, diamond(), ["a"], [["east"]])
        self.check_raises(NotSame, {"x": "a"}, Space, StepScale(2), ["a"], [["1110"]])

    def test_it_comes_before_ways_through(self):
        self.check_raises(NotSame, {"x": "c"}, Space, ChainScale(2), ["a", "b", "c"],
                          [["1", "1", "0"], ["0", "1", "1"], ["0", "0", "0"]])

    def test_nearer_by_way_of_another_point(self):
        scale = DistanceScale(9)
        self.check_raises(NotThrough, {"x": "a", "y": "b", "z": "c"}, Space, scale, ["a", "b", "c"],
                          [["0", "2", "6"], ["4", "0", "3"], ["far", "far", "0"]])
        self.check_raises(NotThrough, {"x": "b", "y": "a", "z": "c"}, Space, scale, ["a", "b", "c"],
                          [["0", "9", "1"], ["1", "0", "3"], ["far", "far", "0"]])

    def test_the_order_of_the_product_matters(self):
        rows = moves().rows()
        self.assertEqual(Space(StepScale(2), ["a", "b", "c"], rows), moves())
        self.check_raises(NotThrough, {"x": "a", "y": "b", "z": "c"}, Space, TurnedScale(StepScale(2)),
                          ["a", "b", "c"], rows)

    def test_a_point_that_grows_nearer_to_itself(self):
        self.check_raises(NotThrough, {"x": "a", "y": "a", "z": "a"}, Space, growing(3), ["a"], [["1"]])
        self.assertEqual(Space(growing(3), ["a"], [["3"]]).near("a", "a"), "3")

    def test_x_decides_first_then_y_then_z(self):
        scale = ChainScale(2)
        self.check_raises(NotThrough, {"x": "a", "y": "b", "z": "d"}, Space, scale, ["a", "b", "c", "d"],
                          [["1", "1", "1", "0"], ["0", "1", "0", "1"], ["1", "0", "1", "0"], ["1", "0", "0", "1"]])

    def first_misfit(self, scale, points, rows):
        """What the document says of rows of grades, by its words."""
        def near(x, y):
            return rows[points.index(x)][points.index(y)]

        for x in points:
            if scale.join(scale.unit, near(x, x)) != near(x, x):
                return NotSame, {"x": x}
        for x, y, z in itertools.product(points, repeat=3):
            product = scale.then(near(x, y), near(y, z))
            if scale.join(product, near(x, z)) != near(x, z):
                return NotThrough, {"x": x, "y": y, "z": z}
        return None

    def check_rows(self, scale, points, rows):
        misfit = self.first_misfit(scale, points, rows)
        if misfit is None:
            self.assertEqual(Space(scale, points, rows).rows(), rows)
        else:
            with self.assertRaises(FarscaleError) as caught:
                Space(scale, points, rows)
            self.assertEqual((type(caught.exception), vars(caught.exception)), misfit)

    def test_all_rows_of_two_points(self):
        for scale in (single(), ChainScale(3), diamond(), beyond_unit(), growing(2), DistanceScale(1)):
            for told in itertools.product(scale.grades(), repeat=4):
                self.check_rows(scale, ["b", "a"], [list(told[:2]), list(told[2:])])

    def test_many_rows_of_three_points(self):
        chance = random.Random(11)
        for scale in regular_scales():
            for turn in range(60):
                rows = [[chance.choice(scale.grades()) for _ in range(3)] for _ in range(3)]
                for k in range(3):
                    rows[k][k] = rows[k][k] if turn < 10 else scale.join(scale.unit, rows[k][k])
                self.check_rows(scale, ["q", "p", "r"], rows)


class SameSpaces(Checks):

    def test_same(self):
        for scale in regular_scales():
            self.check_same(some_space(scale, 3), some_space(scale, 3))
        self.check_same(Space(ChainScale(2), [], []), Space(StepScale(1), [], []))
        space = some_space(DistanceScale(4), 3)
        self.check_same(space, Space(told_again(DistanceScale(4)), space.points(), space.rows()))

    def test_one_thing_that_differs(self):
        rows = [["2", "1"], ["0", "2"]]
        space = Space(ChainScale(3), ["a", "b"], rows)
        self.check_other(space, Space(ChainScale(3), ["a", "c"], rows))
        self.check_other(space, Space(ChainScale(3), ["a", "b"], [["2", "1"], ["1", "2"]]))
        self.check_other(space, Space(ChainScale(3), ["a"], [["2"]]))
        self.check_other(space, Space(ChainScale(3), [], []))
        self.check_other(Space(ChainScale(3), [], []), Space(ChainScale(2), [], []))
        self.check_other(Space(DistanceScale(2), ["a"], [["0"]]), Space(DistanceScale(3), ["a"], [["0"]]))

    def test_the_same_points_in_another_order(self):
        first = Space(ChainScale(3), ["a", "b"], [["2", "1"], ["0", "2"]])
        second = Space(ChainScale(3), ["b", "a"], [["2", "0"], ["1", "2"]])
        self.check_other(first, second)
        for x, y in itertools.product("ab", repeat=2):
            self.assertEqual(first.near(x, y), second.near(x, y))
        even = [["2", "1"], ["1", "2"]]
        self.check_other(Space(ChainScale(3), ["a", "b"], even), Space(ChainScale(3), ["b", "a"], even))

    def test_what_is_no_space(self):
        for space in (distances(), Space(ChainScale(2), [], [])):
            for thing in (None, 0, "", "a", [], space.points(), tuple(space.points()), space.rows(), {}, object(),
                          Space, space.scale):
                self.check_other(space, thing)


class ListsOfTheCaller(Checks):

    def test_what_is_handed_in_is_left_alone(self):
        points, rows = ["a", "b"], [["0", "1"], ["2", "0"]]
        told = copy.deepcopy((points, rows))
        space = Space(DistanceScale(3), points, rows)
        part(space, points)
        turned(space)
        self.assertEqual((points, rows), told)

    def test_changes_of_what_was_handed_in(self):
        points, rows = ["a", "b"], [["0", "1"], ["2", "0"]]
        space = Space(DistanceScale(3), points, rows)
        points[0] = "z"
        points.append("y")
        rows[0][1] = "3"
        rows[1] = ["1", "1"]
        rows.pop()
        self.check_same(space, Space(DistanceScale(3), ["a", "b"], [["0", "1"], ["2", "0"]]))
        self.assertEqual((space.near("a", "b"), "z" in space, "a" in space), ("1", False, True))

    def test_one_list_for_all_rows(self):
        row = ["1", "1"]
        space = Space(ChainScale(2), ["a", "b"], [row, row])
        row[0] = "0"
        self.assertEqual(space.rows(), [["1", "1"], ["1", "1"]])

    def test_changes_of_what_was_told(self):
        for space in (distances(), turned(distances()), part(distances(), ["a", "b", "c"])):
            points, rows = space.points(), space.rows()
            expected = copy.deepcopy((points, rows))
            points.reverse()
            points.append("z")
            rows[0][1] = "9"
            rows.pop()
            self.assertEqual((space.points(), space.rows()), expected)
            self.assertEqual((space.near("a", "b"), "z" in space, len(space)), (expected[1][0][1], False, 3))

    def test_part_keeps_no_list(self):
        held = ["c", "a"]
        inner = part(distances(), held)
        held.append("b")
        held[0] = "b"
        self.assertEqual(inner.points(), ["a", "c"])


class TurnedSpaces(Checks):

    def test_near_the_other_way_round(self):
        for scale in regular_scales():
            for count in (0, 1, 2, 4):
                space = some_space(scale, count, seed=3)
                back = turned(space)
                self.assertEqual(back.scale, TurnedScale(scale))
                self.assertEqual(back.points(), space.points())
                for x, y in itertools.product(space.points(), repeat=2):
                    self.assertEqual(back.near(x, y), space.near(y, x))

    def test_it_is_a_space_over_the_turned_scale(self):
        for scale in regular_scales():
            back = turned(some_space(scale, 4, seed=4))
            self.check_same(back, Space(TurnedScale(scale), back.points(), back.rows()))

    def test_it_need_not_be_one_over_the_scale(self):
        back = turned(moves())
        self.assertEqual(back.near("b", "a"), "0010")
        self.assertEqual(back.scale.then("0010", "0100"), "1000")
        with self.assertRaises(NotThrough):
            Space(StepScale(2), back.points(), back.rows())

    def test_turned_twice(self):
        for scale in regular_scales():
            space = some_space(scale, 3, seed=6)
            self.check_same(turned(turned(space)), space)
        self.check_other(turned(moves()), moves())
        self.check_other(turned(distances()), distances())

    def test_the_space_is_left_alone(self):
        space = distances()
        turned(space)
        self.check_same(space, distances())


class Parts(Checks):

    def test_some_of_the_points(self):
        inner = part(distances(), ["a", "c"])
        self.check_same(inner, Space(DistanceScale(9), ["a", "c"], [["0", "5"], ["far", "0"]]))

    def test_the_space_has_the_order(self):
        self.check_same(part(distances(), ["c", "a"]), part(distances(), ["a", "c"]))
        self.check_same(part(distances(), ["c", "b", "a"]), distances())

    def test_a_point_several_times(self):
        self.check_same(part(distances(), ["c", "a", "c", "a", "a"]), part(distances(), ["a", "c"]))

    def test_no_points_and_all_points(self):
        for scale in regular_scales():
            space = some_space(scale, 3)
            self.check_same(part(space, []), Space(scale, [], []))
            self.check_same(part(space, space.points()), space)
        self.check_same(part(Space(ChainScale(2), [], []), []), Space(ChainScale(2), [], []))

    def test_all_parts(self):
        for scale in (StepScale(2), diamond(), beyond_unit(), PairScale(ChainScale(2), DistanceScale(2))):
            space = some_space(scale, 4, seed=8)
            for count in range(5):
                for held in itertools.combinations(space.points(), count):
                    inner = part(space, list(held)[::-1])
                    self.assertEqual(inner.points(), list(held))
                    self.check_same(inner, Space(scale, list(held), [[space.near(x, y) for y in held] for x in held]))

    def test_a_part_of_a_part(self):
        space = some_space(DistanceScale(5), 5)
        self.check_same(part(part(space, ["p4", "p1", "p2"]), ["p4", "p2"]), part(space, ["p2", "p4"]))

    def test_the_first_entry_that_is_no_point(self):
        space = distances()
        self.check_raises(UnknownPoint, {"name": "x"}, part, space, ["x"])
        self.check_raises(UnknownPoint, {"name": "x"}, part, space, ["a", "x", "y", "a"])
        self.check_raises(UnknownPoint, {"name": "y"}, part, space, ["b", "b", "y", "x"])
        self.check_raises(UnknownPoint, {"name": ""}, part, space, [""])
        self.check_raises(UnknownPoint, {"name": "b"}, part, part(space, ["a", "c"]), ["a", "b"])


class FurtherNames(Checks):
    """Functions of the package may make points whose names callers cannot give."""

    def space(self):
        return made_space(DistanceScale(5), ["l.a", "r.a", "r.b"],
                          [["0", "0", "2"], ["0", "0", "2"], ["far", "far", "0"]])

    def test_they_are_asked_like_others(self):
        space = self.space()
        self.assertEqual(space.points(), ["l.a", "r.a", "r.b"])
        self.assertEqual((space.near("l.a", "r.b"), space.near("r.b", "l.a")), ("2", "far"))
        self.assertIs(space.alike("l.a", "r.a"), True)
        self.assertIs("r.b" in space, True)
        self.assertIs("b" in space, False)
        self.assertEqual(len(space), 3)
        self.check_raises(UnknownPoint, {"name": "a"}, space.near, "a", "l.a")
        self.check_same(space, self.space())

    def test_turned_and_parts(self):
        back = turned(self.space())
        self.assertEqual((back.points(), back.near("r.b", "l.a")), (["l.a", "r.a", "r.b"], "2"))
        inner = part(self.space(), ["r.b", "l.a"])
        self.assertEqual((inner.points(), inner.near("l.a", "r.b")), (["l.a", "r.b"], "2"))

    def test_no_list_is_kept(self):
        points, rows = ["l.a"], [["0"]]
        space = made_space(DistanceScale(5), points, rows)
        points[0], rows[0][0] = "x", "1"
        self.assertEqual((space.points(), space.rows()), (["l.a"], [["0"]]))


if __name__ == "__main__":
    unittest.main()
