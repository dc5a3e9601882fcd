"""Points 1, 18, 20 and 24: closed pairs, closures, bare and unsettled pairs, and widened spaces."""

import copy
import functools
import itertools
import unittest

from farscale.errors import BadName, BadTable, NotClosed, TooMany, TwiceTold, UnknownGrade
from farscale.families import ChainScale, DistanceScale, PairScale, StepScale, TurnedScale
from farscale.maps import SpaceMap
from farscale.pairs import bare_pair, closed_pairs, closure, unsettled, widened
from farscale.quotients import partner
from farscale.spaces import Space, made_space, part, turned
from farscale.tables import Table
from tests.at_hand import (all_rows, alike_points, beyond_unit, column_ahead, crowns, diamond, distances, further_names,
                           loops, met, moves, no_table, pair_of_point, pairs_by_words, regular_scales, row_behind,
                           sides, single, single_point, small_scales, some_space, under_by_words)
from tests.checks import Checks


@functools.cache
def small_spaces():
    """Spaces of all kinds with few enough columns to look at each of them, and their closed pairs."""
    found = [sides(), loops(), turned(loops()), further_names(), alike_points()]
    for scale in regular_scales():
        most = 4 if len(scale.grades()) < 4 else 3 if len(scale.grades()) < 6 else 2
        found += [some_space(scale, count, seed) for count in range(most + 1) for seed in (1, 2)]
    return [(space, pairs_by_words(space)) for space in found]


def apart():
    """Two points over the diamond with nothing between them."""
    return Space(diamond(), ["a", "b"], [["both", "no"], ["no", "both"]])


def chain_pair():
    """One point ahead of another one."""
    return Space(ChainScale(2), ["a", "b"], [["1", "1"], ["0", "1"]])


class PairTest(Checks):

    def check_pairs(self, found, expected):
        self.assertIs(type(found), list)
        self.assertEqual(found, expected)
        for pair in found:
            self.check_pair(pair)

    def check_pair(self, pair):
        """A pair of tuples: strings are equal to strings only, so the values need no look."""
        self.assertIs(type(pair), tuple)
        self.assertEqual([type(half) for half in pair], [tuple, tuple])


class ClosedPairs(PairTest):

    def test_looked_up_among_all_columns(self):
        for space, expected in small_spaces():
            if len(expected) > 200:
                self.check_raises(TooMany, {}, closed_pairs, space)
            else:
                self.check_pairs(closed_pairs(space), expected)

    def test_by_hand(self):
        self.check_pairs(closed_pairs(chain_pair()), [(("1", "0"), ("1", "1")), (("1", "1"), ("0", "1"))])
        self.check_pairs(closed_pairs(Space(ChainScale(2), ["a", "b"], [["1", "0"], ["0", "1"]])),
                         [(("0", "0"), ("1", "1")), (("0", "1"), ("0", "1")), (("1", "0"), ("1", "0")),
                          (("1", "1"), ("0", "0"))])

    def test_the_order_of_the_grades_is_that_of_the_scale(self):
        # By its letters "10" comes ahead of "2", and "many" ahead of "one".
        two = Space(DistanceScale(10), ["a", "b"], [["0", "10"], ["10", "0"]])
        columns = [column for column, _ in closed_pairs(two)]
        places = [[two.scale.grades().index(grade) for grade in column] for column in columns]
        self.assertEqual(places, sorted(places))
        self.assertIn(("2", "8"), columns)
        self.assertIn(("10", "0"), columns)
        self.assertEqual([column for column, _ in closed_pairs(loops())],
                         [("many", "many"), ("many", "no"), ("no", "one"), ("no", "no")])

    def test_pairs_of_points_are_closed(self):
        for scale in regular_scales():
            for count in (1, 2, 3):
                space = some_space(scale, count, seed=3)
                for point in space.points():
                    column, row = pair_of_point(space, point)
                    self.assertEqual((row_behind(space, column), column_ahead(space, row)), (row, column))
                    try:
                        self.assertIn((column, row), closed_pairs(space))
                    except TooMany:
                        self.assertGreater(len(scale.grades()) ** count, 200)

    def test_column_then_row_stay_within_near(self):
        for space in (moves(), turned(moves()), part(moves(), ["a", "b"])):
            for column, row in closed_pairs(part(space, ["a", "b"])):
                for (x, f), (y, g) in itertools.product(zip(space.points(), column), zip(space.points(), row)):
                    self.assertTrue(space.scale.within(space.scale.then(f, g), space.near(x, y)))

    def test_no_points(self):
        for scale in regular_scales():
            self.check_pairs(closed_pairs(Space(scale, [], [])), [((), ())])

    def test_one_point(self):
        self.check_pairs(closed_pairs(single_point(single())), [(("g",), ("g",))])
        self.check_pairs(closed_pairs(single_point(DistanceScale(5))), [(("0",), ("0",))])
        # Going by the column and then by the row leads each state to itself at most.
        rows = ["1111", "1101", "0111", "0101", "1110", "1100", "0110", "0100",
                "1011", "1001", "0011", "0001", "1010", "1000", "0010", "0000"]
        self.check_pairs(closed_pairs(single_point(StepScale(2))),
                         [((column,), (row,)) for column, row in zip(StepScale(2).grades(), rows)])

    def test_one_grade(self):
        for count in (0, 1, 2, 40):
            self.check_pairs(closed_pairs(some_space(single(), count)), [(("g",) * count, ("g",) * count)])

    def test_points_that_are_alike_have_one_pair(self):
        space = alike_points()
        self.assertEqual(pair_of_point(space, "a"), pair_of_point(space, "c"))
        found = closed_pairs(space)
        self.assertEqual(len(found), len({column for column, _ in found}))
        self.assertEqual(len(found), len(closed_pairs(part(space, ["a", "b"]))))

    def test_turned_spaces(self):
        for scale in small_scales():
            for count in (0, 1, 2, 3):
                space = some_space(scale, count, seed=6)
                back = [(row, column) for column, row in closed_pairs(space)]
                self.assertEqual(sorted(closed_pairs(turned(space))), sorted(back))

    def test_two_hundred(self):
        self.assertEqual(len(closed_pairs(crowns(0))), 190)
        found = closed_pairs(crowns(10))
        self.assertEqual((len(found), found), (200, sorted(found)))
        for column, row in found[::10]:
            self.assertEqual((row_behind(crowns(10), column), column_ahead(crowns(10), row)), (row, column))

    def test_more_than_two_hundred(self):
        for space in (crowns(11), crowns(12), some_space(PairScale(ChainScale(2), DistanceScale(6)), 40),
                      Space(DistanceScale(14), ["a", "b"], [["0", "far"], ["far", "0"]])):
            self.check_raises(TooMany, {}, closed_pairs, space)
            self.check_raises(TooMany, {}, bare_pair, space)
            self.check_raises(TooMany, {}, unsettled, space)
        # As many columns as grades: a row of points has one closed pair more than points.
        row = Space(ChainScale(2), [f"p{k}" for k in range(40)], [["1" if i <= k else "0" for k in range(40)]
                                                                  for i in range(40)])
        self.assertEqual(len(closed_pairs(row)), 40)

    def test_the_list_belongs_to_the_caller(self):
        space = sides()
        closed_pairs(space).clear()
        self.check_pairs(closed_pairs(space), pairs_by_words(sides()))
        self.assertEqual(space, sides())


class Closures(PairTest):

    def check_closure(self, space, grades, pairs):
        scale = space.scale
        above = [pair for pair in pairs if all(scale.join(a, f) == f for a, f in zip(grades, pair[0]))]
        [least] = [pair for pair in above
                   if all(scale.join(a, b) == b for other in above for a, b in zip(pair[0], other[0]))]
        found = closure(space, grades)
        self.check_pair(found)
        self.assertEqual(found, least)

    def test_looked_up_among_all_pairs(self):
        for space, pairs in small_spaces():
            step = 1 if len(pairs) < 50 else 7
            for grades in list(itertools.product(space.scale.grades(), repeat=len(space)))[::step]:
                self.check_closure(space, list(grades), pairs)

    def test_closed_pairs_are_their_own_closure(self):
        for space in (sides(), loops(), alike_points(), crowns(10), turned(sides())):
            for column, row in closed_pairs(space):
                self.assertEqual(closure(space, list(column)), (column, row))

    def test_pairs_of_points(self):
        for scale in regular_scales():
            space = some_space(scale, 4, seed=8)
            for point in space.points():
                grades = [scale.unit if x == point else scale.none for x in space.points()]
                self.assertEqual(closure(space, grades), pair_of_point(space, point))

    def test_no_points(self):
        for scale in regular_scales():
            self.assertEqual(closure(Space(scale, [], []), []), ((), ()))

    def test_more_than_two_hundred_pairs(self):
        space = crowns(12)
        grades = ["0"] * len(space)
        self.assertEqual(closure(space, grades), (("0",) * 38, ("1",) * 38))
        grades[space.points().index("a6x0")] = "1"
        self.assertEqual(closure(space, grades), pair_of_point(space, "a6x0"))
        space = some_space(PairScale(ChainScale(2), DistanceScale(6)), 40)
        column, row = closure(space, [space.scale.none] * 40)
        self.assertEqual((closure(space, list(column)), len(row)), ((column, row), 40))

    def test_too_few_or_many_grades(self):
        space = sides()
        for grades in ([], ["both"], ["both"] * 2, ["both"] * 4, ["x"] * 2, ["x"] * 4):
            self.check_raises(BadTable, {}, closure, space, grades)
        self.check_raises(BadTable, {}, closure, Space(diamond(), [], []), ["both"])

    def test_entries_that_are_no_grades(self):
        self.check_raises(UnknownGrade, {"name": "x"}, closure, sides(), ["both", "x", "y"])
        self.check_raises(UnknownGrade, {"name": ""}, closure, sides(), ["", "x", "both"])
        self.check_raises(UnknownGrade, {"name": "2"}, closure, crowns(12), ["0"] * 37 + ["2"])

    def test_the_list_is_left_alone(self):
        grades = ["east", "no", "west"]
        told = copy.deepcopy(grades)
        found = closure(sides(), grades)
        self.assertEqual(grades, told)
        grades[0] = "both"
        self.assertEqual(found, closure(sides(), told))


class BarePairs(PairTest):

    def test_by_words(self):
        for space, pairs in small_spaces():
            if len(pairs) <= 200:
                held = [pair_of_point(space, point) for point in space.points()]
                bare = [pair for pair in pairs if pair not in held]
                self.assertEqual(bare_pair(space), bare[0] if bare else None)

    def test_by_hand(self):
        self.assertIsNone(bare_pair(chain_pair()))
        self.assertIsNone(bare_pair(single_point(DistanceScale(5))))
        self.assertIsNone(bare_pair(single_point(single())))
        self.assertEqual(bare_pair(apart()), (("both", "both"), ("no", "no")))
        line = Space(DistanceScale(2), ["a", "b"], [["0", "2"], ["2", "0"]])
        self.assertEqual(bare_pair(line), (("0", "0"), ("2", "2")))

    def test_a_pair_of_some_point_is_not_bare_wherever_it_comes(self):
        space = Space(ChainScale(2), ["b", "a"], [["1", "0"], ["1", "1"]])
        self.assertIsNone(bare_pair(space))
        three = Space(ChainScale(2), ["a", "b", "c"], [["1", "0", "1"], ["0", "1", "1"], ["0", "0", "1"]])
        self.assertEqual(bare_pair(three), (("0", "0", "0"), ("1", "1", "1")))

    def test_no_points(self):
        for scale in regular_scales():
            self.assertEqual(bare_pair(Space(scale, [], [])), ((), ()))

    def test_kinds(self):
        self.check_pair(bare_pair(apart()))
        self.check_pair(unsettled(apart()))


class UnsettledPairs(PairTest):

    def test_by_words(self):
        found = []
        for space, pairs in small_spaces():
            scale = space.scale
            if len(pairs) <= 200:
                held = [pair_of_point(space, point) for point in space.points()]
                loose = [pair for pair in pairs if pair not in held and self.is_settling(scale, *pair)]
                self.assertEqual(unsettled(space), loose[0] if loose else None)
                found.append(bool(loose))
        self.assertGreater(found.count(True), 5)
        self.assertGreater(found.count(False), 5)

    def is_settling(self, scale, column, row):
        whole = scale.joined([scale.then(g, f) for f, g in zip(column, row)])
        return scale.join(scale.unit, whole) == whole

    def test_by_hand(self):
        self.assertEqual(unsettled(apart()), (("east", "west"), ("east", "west")))
        self.assertIsNone(unsettled(chain_pair()))
        self.assertIsNone(unsettled(Space(DistanceScale(2), ["a", "b"], [["0", "2"], ["2", "0"]])))
        # All pairs of points apart have none as the join, but for the points' own.
        self.assertIsNone(unsettled(Space(ChainScale(2), ["a", "b"], [["1", "0"], ["0", "1"]])))

    def test_the_order_of_the_product(self):
        # The row comes first: it leads each state on, and the column leads it back.
        self.assertEqual(unsettled(single_point(StepScale(2))), (("0011",), ("0101",)))
        self.assertEqual(unsettled(single_point(TurnedScale(StepScale(2)))), (("0101",), ("0011",)))

    def test_no_points(self):
        for scale in regular_scales():
            expected = ((), ()) if scale.unit == scale.none else None
            self.assertEqual(unsettled(Space(scale, [], [])), expected)

    def test_tables_from_a_single_point(self):
        for scale in small_scales():
            one = single_point(scale)
            for count in (0, 1, 2, 3):
                for seed in (1, 2):
                    space = some_space(scale, count, seed)
                    pairs = [pair for pair in closed_pairs(space) if self.is_settling(scale, *pair)]
                    found = []
                    for rows in all_rows(scale, 1, count):
                        if no_table(one, space, rows) is None:
                            back = partner(Table(one, space, rows))
                            if back is not None:
                                found.append((tuple(row[0] for row in back.rows()), tuple(rows[0])))
                    self.assertEqual(sorted(found), sorted(pairs))


class WidenedSpaces(PairTest):

    def check_widened(self, space, name, column, row):
        scale = space.scale
        itself = met(scale, [under_by_words(scale, f, f) for f in column])
        rows = [[*near, f] for near, f in zip(space.rows(), column)] + [[*row, itself]]
        found = widened(space, name, column, row)
        self.assertIs(type(found), Space)
        self.assertEqual((found.points(), found.rows()), ([*space.points(), name], rows))
        self.assertEqual(found, made_space(scale, [*space.points(), name], rows))
        self.assertEqual(part(found, space.points()), space)
        return found

    def test_all_closed_pairs(self):
        for space, pairs in small_spaces():
            for column, row in pairs[:60]:
                found = self.check_widened(space, "new", list(column), list(row))
                self.assertEqual(widened(space, "new", column, row), found)
                self.assertEqual(pair_of_point(found, "new"), (column + (found.near("new", "new"),),
                                                               row + (found.near("new", "new"),)))
                # It is a space, and the old one lies in it.
                if "l.a" not in space:
                    self.assertEqual(Space(space.scale, found.points(), found.rows()), found)
                self.assertTrue(SpaceMap(space, found, space.points()).keeps())

    def test_by_hand(self):
        line = Space(DistanceScale(4), ["a", "b"], [["0", "4"], ["4", "0"]])
        found = self.check_widened(line, "m", ["1", "3"], ["1", "3"])
        self.assertEqual(found.rows(), [["0", "4", "1"], ["4", "0", "3"], ["1", "3", "0"]])
        self.check_widened(line, "m", ("0", "4"), ["0", "4"])
        self.check_widened(line, "m", ["0", "4"], ("0", "4"))

    def test_the_pair_of_a_point(self):
        for space in (distances(), sides(), moves(), loops(), alike_points(), crowns(12)):
            for point in space.points()[:5]:
                found = self.check_widened(space, "new", *pair_of_point(space, point))
                self.assertTrue(found.alike(point, "new"))

    def test_the_columns_decide_how_near_it_is_to_itself(self):
        for scale in regular_scales():
            empty = Space(scale, [], [])
            found = self.check_widened(empty, "a", [], [])
            self.assertEqual(found.rows(), [[scale.joined(scale.grades())]])
        found = widened(loops(), "c", ["no", "one"], ["no", "one"])
        self.assertEqual(found.near("c", "c"), "one")
        found = widened(loops(), "c", ["no", "no"], ["many", "many"])
        self.assertEqual(found.near("c", "c"), "many")

    def test_points_with_further_names(self):
        space = further_names()
        for column, row in closed_pairs(space):
            self.check_widened(space, "a", column, row)
        self.check_raises(BadName, {"name": "l.a"}, widened, space, "l.a", ["2", "1"], ["2", "0"])
        self.check_raises(BadName, {"name": "l.b"}, widened, space, "l.b", ["2", "1"], ["2", "0"])

    def test_more_than_two_hundred_pairs(self):
        space = crowns(12)
        grades = ["1" if name in ("a6x0", "a6x1") else "0" for name in space.points()]
        column, row = closure(space, grades)
        self.assertNotIn((column, row), [pair_of_point(space, point) for point in space.points()])
        self.check_widened(space, "new", column, row)

    def test_names(self):
        space, pair = chain_pair(), (["1", "0"], ["1", "1"])
        for name in ("", "1a", "A", "a b", "a.b", "abcdefghijklm", "l.a", "/"):
            # The pair is no closed one, or it is one.
            self.check_raises(BadName, {"name": name}, widened, space, name, *pair)
            self.check_raises(BadName, {"name": name}, widened, space, name, ["0"], ["x", "y"])
        for name in ("a", "b"):
            self.check_raises(TwiceTold, {"name": name}, widened, space, name, *pair)
            self.check_raises(TwiceTold, {"name": name}, widened, space, name, [], [])
        self.assertEqual(widened(space, "abcdefghijkl", *pair).points(), ["a", "b", "abcdefghijkl"])
        twice = made_space(ChainScale(2), ["A"], [["1"]])
        self.check_raises(BadName, {"name": "A"}, widened, twice, "A", ["1"], ["1"])

    def test_what_is_no_closed_pair(self):
        space = chain_pair()
        right = {("1", "0"): ("1", "1"), ("1", "1"): ("0", "1")}
        for column in itertools.product("01", repeat=2):
            for row in itertools.product("01", repeat=2):
                if right.get(column) == row:
                    self.check_widened(space, "c", column, row)
                else:
                    self.check_raises(NotClosed, {}, widened, space, "c", column, row)
                    self.check_raises(NotClosed, {}, widened, space, "c", list(column), list(row))

    def test_columns_and_rows_of_other_lengths_or_grades(self):
        space = chain_pair()
        for column, row in (([], []), (["1"], ["1"]), (["1", "0"], ["1"]), (["1"], ["1", "1"]),
                            (["1", "0", "0"], ["1", "1"]), (["1", "0"], ["1", "1", "1"]), (["1", "0"], []),
                            (["x", "0"], ["1", "1"]), (["1", "0"], ["1", "x"]), (["1", ""], ["", "1"]),
                            (["1", "0", "1"], ["1", "1", "1"]), (["2", "2"], ["2", "2"])):
            self.check_raises(NotClosed, {}, widened, space, "c", column, row)
        empty = Space(ChainScale(2), [], [])
        self.check_raises(NotClosed, {}, widened, empty, "c", ["1"], [])
        self.check_raises(NotClosed, {}, widened, empty, "c", [], ["1"])

    def test_a_closed_pair_of_another_space(self):
        space = Space(ChainScale(2), ["a", "b"], [["1", "0"], ["0", "1"]])
        column, row = pair_of_point(chain_pair(), "b")
        self.check_raises(NotClosed, {}, widened, space, "c", column, row)
        column, row = closed_pairs(some_space(DistanceScale(3), 3))[0]
        self.check_raises(NotClosed, {}, widened, space, "c", column, row)

    def test_a_bare_pair_has_no_place_in_the_space(self):
        # The map of the space to itself does not go on to the widened space.
        tried = 0
        for scale in small_scales():
            for count in (0, 1, 2):
                space = some_space(scale, count, seed=4)
                pair = bare_pair(space)
                if pair is not None:
                    tried += 1
                    wider = widened(space, "new", *pair)
                    for image in space.points():
                        images = [*space.points(), image]
                        self.assertFalse(all(scale.within(wider.near(x, y), space.near(p, q))
                                             for (x, p), (y, q) in itertools.product(zip(wider.points(), images),
                                                                                     repeat=2)))
        self.assertGreater(tried, 10)

    def test_what_is_handed_in_is_left_alone(self):
        space, column, row = chain_pair(), ["1", "0"], ["1", "1"]
        found = widened(space, "c", column, row)
        self.assertEqual((column, row, space), (["1", "0"], ["1", "1"], chain_pair()))
        column[0], row[0] = "0", "0"
        column.pop()
        found.rows().clear()
        found.points().clear()
        self.assertEqual(found, widened(space, "c", ["1", "0"], ["1", "1"]))


if __name__ == "__main__":
    unittest.main()
