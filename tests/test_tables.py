"""Points 1, 14, 15 and 16: tables, what is worked out with them, and the tables of maps."""

import copy
import itertools
import unittest

from farscale.errors import BadTable, MixedScales, MixedSpaces, NotAhead, NotBehind, UnknownGrade, UnknownPoint
from farscale.families import ChainScale, DistanceScale, StepScale, TurnedScale
from farscale.maps import SpaceMap
from farscale.searches import all_maps
from farscale.spaces import Space, turned
from farscale.tables import Table, backward, forward
from tests.at_hand import (all_rows, beyond_unit, diamond, distances, further_names, loops, met, moves, named, no_table,
                           regular_scales, sides, single, single_point, small_scales, some_space, some_table,
                           told_again)
from tests.checks import Checks


def line(*places):
    """Points on a line, as far from each other as they are, at most 9."""
    rows = [[str(abs(i - j)) for j in places] for i in places]
    return Space(DistanceScale(9), [f"at{place}" for place in places], rows)


def roads():
    """A table between two lines."""
    return Table(line(0, 2), line(0, 1, 5), [["3", "2", "4"], ["5", "4", "2"]])


def behind(first, second):
    return first >> second


def either(first, second):
    return first | second


def both(first, second):
    return first & second


class TableTest(Checks):

    def check_table(self, table, source, target, rows):
        """It is a table with these parts, also when its grades are looked at."""
        self.assertIs(type(table), Table)
        self.assertEqual((table.source, table.target, table.rows()), (source, target, rows))
        self.assertIsNone(no_table(source, target, rows))
        entries = [[table.at(x, y) for y in target.points()] for x in source.points()]
        self.assertEqual(entries, rows)
        self.check_same(table, Table(source, target, rows))


class OrdinaryTables(TableTest):

    def test_by_hand(self):
        source, target = line(0, 2), line(0, 1, 5)
        rows = [["3", "2", "4"], ["5", "4", "2"]]
        table = Table(source, target, rows)
        self.check_table(table, source, target, rows)
        self.assertIs(table.source, source)
        self.assertIs(table.target, target)
        self.assertEqual((table.at("at0", "at5"), table.at("at2", "at0")), ("4", "5"))

    def test_unlike_products(self):
        rows = [["0001", "0001"], ["0100", "0100"], ["1001", "1001"]]
        target = Space(StepScale(2), ["x", "y"], [["1001", "1001"], ["0000", "1001"]])
        self.check_table(Table(moves(), target, rows), moves(), target, rows)
        rows[0] = ["0000", "0000"]
        self.check_raises(NotAhead, {"x": "a", "y": "b", "z": "x"}, Table, moves(), target, rows)

    def test_all_rows_between_small_spaces(self):
        for scale in small_scales():
            for height, width in ((1, 1), (1, 2), (2, 1), (2, 2)):
                source, target = some_space(scale, height, seed=2), some_space(scale, width, seed=5)
                for rows in all_rows(scale, height, width):
                    wrong = no_table(source, target, rows)
                    if wrong is None:
                        self.assertEqual(Table(source, target, rows).rows(), rows)
                    else:
                        error = {"NotAhead": NotAhead, "NotBehind": NotBehind}[wrong[0]]
                        self.check_raises(error, wrong[1], Table, source, target, rows)

    def test_many_grades(self):
        for scale in regular_scales():
            source, target = some_space(scale, 1, seed=3), some_space(scale, 2, seed=4)
            for rows in all_rows(scale, 1, 2):
                wrong = no_table(source, target, rows)
                if wrong is None:
                    self.check_table(Table(source, target, rows), source, target, rows)
                else:
                    error = {"NotAhead": NotAhead, "NotBehind": NotBehind}[wrong[0]]
                    self.check_raises(error, wrong[1], Table, source, target, rows)

    def test_no_points(self):
        for scale in regular_scales():
            empty, one = Space(scale, [], []), single_point(scale)
            for source, target, rows in ((empty, empty, []), (empty, one, []), (one, empty, [[]])):
                self.check_table(Table(source, target, rows), source, target, rows)

    def test_points_with_further_names(self):
        space = further_names()
        rows = [["2", "0"], ["2", "2"]]
        table = Table(space, space, rows)
        self.check_table(table, space, space, rows)
        self.assertEqual(table.at("r.a", "l.a"), "2")
        self.check_raises(NotAhead, {"x": "r.a", "y": "l.a", "z": "l.a"}, Table, space, space, [["2", "0"], ["0", "2"]])

    def test_a_scale_told_again(self):
        again = Space(told_again(DistanceScale(9)), line(0, 1, 5).points(), line(0, 1, 5).rows())
        self.check_same(Table(line(0, 2), again, roads().rows()), roads())

    def test_unknown_points(self):
        table = roads()
        self.check_raises(UnknownPoint, {"name": "x"}, table.at, "x", "y")
        self.check_raises(UnknownPoint, {"name": "at1"}, table.at, "at1", "at1")
        self.check_raises(UnknownPoint, {"name": "at2"}, table.at, "at0", "at2")
        self.check_raises(UnknownPoint, {"name": "at5"}, table.at, "at5", "at2")
        self.check_raises(UnknownPoint, {"name": "one"}, Table(line(), line(0), []).at, "one", "at0")


class WrongTables(TableTest):

    def test_mixed_scales(self):
        first, second = line(0, 2), Space(DistanceScale(8), ["a"], [["0"]])
        # With too few rows, with no grade, with rows that fit no space as well.
        for rows in ([["0"]], [["x"], ["x"]], [["0"], ["9"]], [], [["0"], ["0"]]):
            self.check_raises(MixedScales, {}, Table, first, second, rows)
        self.check_raises(MixedScales, {}, Table, moves(), turned(moves()), moves().rows())
        self.check_raises(MixedScales, {}, Table, Space(ChainScale(2), [], []), Space(ChainScale(3), [], []), [])

    def test_too_few_or_many_rows_or_entries(self):
        source, target = line(0, 2), line(0, 1, 5)
        for rows in ([], [["3", "2", "4"]], [["3", "2", "4"], ["5", "4"]], [["3", "2"], ["5", "4", "2"]],
                     [["3", "2", "4"], ["5", "4", "2", "2"]], roads().rows() + [["5", "4", "2"]],
                     [["x", "2", "4"], ["x"]], [["0", "9", "0"], []], [["3", "5"], ["2", "4"], ["4", "2"]]):
            self.check_raises(BadTable, {}, Table, source, target, rows)
        for rows in ([[]], [["0"]]):
            self.check_raises(BadTable, {}, Table, line(), line(0), rows)
        for rows in ([], [["0"]], [[], []]):
            self.check_raises(BadTable, {}, Table, line(0), line(), rows)

    def test_entries_that_are_no_grades(self):
        source, target = line(0, 2), line(0, 1, 5)
        self.check_raises(UnknownGrade, {"name": "x"}, Table, source, target, [["3", "2", "x"], ["y", "4", "2"]])
        self.check_raises(UnknownGrade, {"name": "y"}, Table, source, target, [["3", "2", "4"], ["y", "x", "2"]])
        # The first row fits neither space.
        self.check_raises(UnknownGrade, {"name": "10"}, Table, source, target, [["0", "9", "0"], ["5", "4", "10"]])

    def test_the_first_points_ahead(self):
        source, target = line(0, 1, 2), line(0, 5)
        self.check_raises(NotAhead, {"x": "at0", "y": "at1", "z": "at5"}, Table, source, target,
                          [["4", "9"], ["4", "7"], ["4", "4"]])
        self.check_raises(NotAhead, {"x": "at0", "y": "at2", "z": "at0"}, Table, source, target,
                          [["7", "8"], ["6", "8"], ["4", "8"]])
        self.check_raises(NotAhead, {"x": "at2", "y": "at1", "z": "at0"}, Table, source, target,
                          [["5", "8"], ["4", "8"], ["6", "8"]])

    def test_the_first_points_behind(self):
        source, target = line(0, 5), line(0, 1, 2)
        self.check_raises(NotBehind, {"x": "at0", "y": "at1", "z": "at2"}, Table, source, target,
                          [["5", "4", "6"], ["5", "4", "6"]])
        self.check_raises(NotBehind, {"x": "at5", "y": "at2", "z": "at0"}, Table, source, target,
                          [["5", "5", "5"], ["7", "6", "4"]])

    def test_ahead_comes_before_behind(self):
        # The first row breaks the target's grades; the second one is too far from the first one.
        self.check_raises(NotAhead, {"x": "at1", "y": "at0", "z": "at0"}, Table, line(0, 1), line(0, 1),
                          [["1", "9"], ["9", "9"]])
        self.check_raises(NotBehind, {"x": "at0", "y": "at0", "z": "at1"}, Table, line(0, 1), line(0, 1),
                          [["1", "9"], ["2", "9"]])

    def test_the_order_of_the_products(self):
        source = Space(StepScale(2), ["a", "b"], [["1001", "0010"], ["0000", "1001"]])
        target = single_point(StepScale(2))
        self.check_raises(NotAhead, {"x": "a", "y": "b", "z": "one"}, Table, source, target, [["0000"], ["0100"]])
        Table(source, target, [["0001"], ["0100"]])
        self.check_raises(NotBehind, {"x": "one", "y": "a", "z": "b"}, Table, target, source, [["0100", "0000"]])
        Table(target, source, [["0100", "1000"]])

    def test_a_point_near_itself_beyond_unit(self):
        for error, told, source, target in (
                (NotAhead, {"x": "a", "y": "a", "z": "one"}, loops(), single_point(beyond_unit())),
                (NotBehind, {"x": "one", "y": "a", "z": "a"}, single_point(beyond_unit()), loops())):
            rows = [["one"], ["one"]] if len(source) == 2 else [["one", "one"]]
            self.check_raises(error, told, Table, source, target, rows)


class TablesBehindTables(TableTest):

    def check_behind(self, first, second):
        scale = first.source.scale
        rows = [[scale.joined([scale.then(first.at(x, y), second.at(y, z)) for y in first.target.points()])
                 for z in second.target.points()] for x in first.source.points()]
        self.check_table(first >> second, first.source, second.target, rows)
        return first >> second

    def test_by_hand(self):
        last = Table(line(0, 1, 5), line(3), [["4"], ["3"], ["2"]])
        self.assertEqual((roads() >> last).rows(), [["5"], ["4"]])

    def test_unlike_products(self):
        one = single_point(StepScale(2))
        first, second = Table(one, one, [["0010"]]), Table(one, one, [["0100"]])
        self.assertEqual((first >> second).rows(), [["0001"]])
        self.assertEqual((second >> first).rows(), [["1000"]])

    def test_a_join_that_is_a_third_grade(self):
        one = single_point(diamond())
        two = Space(diamond(), ["a", "b"], [["both", "no"], ["no", "both"]])
        first, second = Table(one, two, [["both", "west"]]), Table(two, one, [["east"], ["both"]])
        self.assertEqual((first >> second).rows(), [["both"]])

    def test_some_tables(self):
        for scale in regular_scales():
            for counts in ((1, 1, 1), (2, 3, 2), (3, 1, 2), (2, 2, 3), (0, 2, 1), (1, 2, 0)):
                a, b, c = (some_space(scale, count, seed) for seed, count in enumerate(counts))
                for seed in range(4):
                    self.check_behind(some_table(a, b, seed), some_table(b, c, seed + 10))

    def test_by_way_of_no_points(self):
        for scale in regular_scales():
            empty = Space(scale, [], [])
            first, last = some_space(scale, 2), some_space(scale, 3, seed=1)
            made = self.check_behind(Table(first, empty, [[], []]), Table(empty, last, []))
            self.assertEqual(made.rows(), [[scale.none] * 3] * 2)

    def test_groups_and_own(self):
        for scale in regular_scales():
            a, b, c, d = (some_space(scale, count, seed) for seed, count in enumerate((2, 3, 2, 3)))
            first, second, third = some_table(a, b, 1), some_table(b, c, 2), some_table(c, d, 3)
            self.check_same((first >> second) >> third, first >> (second >> third))
            self.check_same(Table.own(a) >> first, first)
            self.check_same(first >> Table.own(b), first)

    def test_spaces_made_apart(self):
        last = Table(line(0, 1, 5), line(3), [["4"], ["3"], ["2"]])
        self.check_behind(roads(), last)

    def test_the_tables_are_left_alone(self):
        first, last = roads(), Table(line(0, 1, 5), line(3), [["4"], ["3"], ["2"]])
        told = (first.rows(), last.rows())
        behind(first, last)
        self.assertEqual((first.rows(), last.rows()), told)

    def test_mixed_spaces(self):
        nearer = Space(DistanceScale(9), line(0, 1, 5).points(), [["0", "1", "4"], ["1", "0", "4"], ["5", "4", "0"]])
        smaller = Space(DistanceScale(8), line(0, 1, 5).points(), line(0, 1, 5).rows())
        for space in (line(0, 2), line(0, 5, 1), line(0, 1), line(), nearer, smaller, further_names()):
            self.check_raises(MixedSpaces, {}, behind, roads(), Table.own(space))
        self.check_raises(MixedSpaces, {}, behind, roads(), roads())
        empty = Space(ChainScale(2), [], [])
        self.check_raises(MixedSpaces, {}, behind, Table(line(0), line(), [[]]), Table.own(empty))


class TablesSideBySide(TableTest):

    def test_by_hand(self):
        other = Table(line(0, 2), line(0, 1, 5), [["4", "3", "2"], ["2", "2", "4"]])
        self.assertEqual((roads() | other).rows(), [["3", "2", "2"], ["2", "2", "2"]])
        self.assertEqual((roads() & other).rows(), [["4", "3", "4"], ["5", "4", "4"]])
        self.assertIs((roads() & other).within(other), True)
        self.assertIs(roads().within(other), False)

    def test_joins_and_meets_that_are_third_grades(self):
        one = single_point(diamond())
        east, west = Table(one, one, [["east"]]), Table(one, one, [["west"]])
        self.assertEqual((east | west).rows(), [["both"]])
        self.assertEqual((east & west).rows(), [["no"]])
        self.assertIs(east.within(west), False)
        self.assertIs(west.within(east), False)

    def test_entry_by_entry(self):
        for scale in regular_scales():
            for height, width in ((1, 1), (2, 3), (3, 2), (0, 2), (2, 0), (0, 0)):
                a, b = some_space(scale, height, seed=1), some_space(scale, width, seed=2)
                tables = [some_table(a, b, seed) for seed in range(4)]
                for first, second in itertools.product(tables, repeat=2):
                    pairs = [list(zip(row, other)) for row, other in zip(first.rows(), second.rows())]
                    self.check_table(first | second, a, b, [[scale.join(*pair) for pair in row] for row in pairs])
                    self.check_table(first & second, a, b, [[met(scale, pair) for pair in row] for row in pairs])
                    self.assertIs(first.within(second), all(scale.join(*pair) == pair[1]
                                                            for row in pairs for pair in row))

    def test_each_entry_counts(self):
        source, target = line(0, 9), line(0, 9)
        table = Table(source, target, [["8"] * 2] * 2)
        for i, k in itertools.product(range(2), repeat=2):
            rows = [["7"] * 2 for _ in range(2)]
            rows[i][k] = "9"
            self.assertIs(table.within(Table(source, target, rows)), False)
            self.assertIs(table.within(Table(source, target, [["7"] * 2] * 2)), True)

    def test_spaces_made_apart(self):
        self.check_same(roads() | roads(), roads())
        self.check_same(roads() & roads(), roads())
        self.assertIs(roads().within(roads()), True)

    def test_mixed_spaces(self):
        source, target = line(0, 2), line(0, 1, 5)
        rows = [["9"] * 3] * 2
        others = [Table(line(0, 3), target, rows), Table(source, line(0, 1, 6), rows), Table(line(2, 0), target, rows),
                  Table(source, line(0, 5, 1), rows), Table(source, line(0, 1), [["9"] * 2] * 2),
                  Table(line(0), target, [["9"] * 3]), Table(line(), target, []), Table(source, line(), [[], []]),
                  Table(target, source, [["9"] * 2] * 3), Table.own(single_point(single()))]
        for other, work in itertools.product(others, (either, both, Table.within)):
            self.check_raises(MixedSpaces, {}, work, roads(), other)
            self.check_raises(MixedSpaces, {}, work, other, roads())
        self.check_raises(MixedSpaces, {}, Table.within, Table(line(), line(0), []), Table(line(), line(1), []))

    def test_the_tables_are_left_alone(self):
        other = Table(line(0, 2), line(0, 1, 5), [["4", "3", "2"], ["2", "2", "4"]])
        first, told = roads(), other.rows()
        for work in (either, both, Table.within):
            work(first, other)
        self.assertEqual((first.rows(), other.rows()), (roads().rows(), told))


class OwnTables(TableTest):

    def test_own(self):
        for scale in regular_scales():
            for count in (0, 1, 3):
                space = some_space(scale, count)
                self.check_table(Table.own(space), space, space, space.rows())

    def test_by_hand(self):
        for space in (distances(), sides(), loops(), moves(), turned(moves()), further_names()):
            self.check_table(Table.own(space), space, space, space.rows())

    def test_forty_points(self):
        space = some_space(DistanceScale(14), 40)
        own = Table.own(space)
        self.check_same(own >> own, own)
        self.check_same(Table(space, space, space.rows()), own)
        self.assertEqual(own.source.points(), named(40))


class SameTables(TableTest):

    def test_one_thing_that_differs(self):
        rows = [["9"] * 2] * 2
        table = Table(line(0, 2), line(0, 1), rows)
        self.check_same(table, Table(line(0, 2), line(0, 1), rows))
        self.check_other(table, Table(line(0, 2), line(0, 1), [["9", "9"], ["9", "8"]]))
        self.check_other(table, Table(line(0, 3), line(0, 1), rows))
        self.check_other(table, Table(line(0, 2), line(1, 0), rows))
        self.check_other(Table(line(), line(0), []), Table(line(), line(), []))
        self.check_other(Table(line(0), line(), [[]]), Table(line(1), line(), [[]]))

    def test_what_is_no_table(self):
        for thing in (None, 0, "", [], roads().rows(), {}, object(), Table, roads().source, roads().at,
                      SpaceMap.same(line(0, 2))):
            self.check_other(roads(), thing)
        self.check_other(Table.own(line()), line())


class TablesOfMaps(TableTest):

    def check_map(self, m):
        source, target = m.source, m.target
        ahead = [[target.near(m(x), y) for y in target.points()] for x in source.points()]
        back = [[target.near(y, m(x)) for x in source.points()] for y in target.points()]
        self.check_table(forward(m), source, target, ahead)
        self.check_table(backward(m), target, source, back)

    def test_by_hand(self):
        target = distances()
        m = SpaceMap(Space(DistanceScale(9), ["x", "y"], [["0", "9"], ["far", "0"]]), target, ["b", "c"])
        self.assertEqual(forward(m).rows(), [["4", "0", "3"], ["far", "far", "0"]])
        self.assertEqual(backward(m).rows(), [["2", "5"], ["0", "3"], ["far", "0"]])

    def test_all_maps_of_small_spaces(self):
        for scale in regular_scales():
            for many, count in ((1, 3), (2, 2), (3, 2), (0, 2)):
                for m in all_maps(some_space(scale, many, seed=1), some_space(scale, count, seed=2)):
                    self.check_map(m)
        for space in (moves(), turned(moves()), sides(), loops(), further_names()):
            for m in all_maps(space, space):
                self.check_map(m)

    def test_maps_behind_maps(self):
        for scale in (StepScale(2), TurnedScale(StepScale(2)), diamond(), DistanceScale(3), beyond_unit()):
            a, b, c = (some_space(scale, 2, seed) for seed in (1, 2, 3))
            for m, n in itertools.product(all_maps(a, b), all_maps(b, c)):
                self.check_same(forward(m) >> forward(n), forward(m >> n))
                self.check_same(backward(n) >> backward(m), backward(m >> n))

    def test_the_same_map(self):
        for space in (distances(), moves(), loops(), line()):
            self.check_same(forward(SpaceMap.same(space)), Table.own(space))
            self.check_same(backward(SpaceMap.same(space)), Table.own(space))

    def test_no_points(self):
        m = SpaceMap(line(), line(0, 1), [])
        self.assertEqual((forward(m).rows(), backward(m).rows()), ([], [[], []]))


class ListsOfTheCaller(TableTest):

    def test_what_is_handed_in_is_left_alone(self):
        rows = roads().rows()
        told = copy.deepcopy(rows)
        Table(line(0, 2), line(0, 1, 5), rows)
        self.assertEqual(rows, told)

    def test_changes_afterwards(self):
        rows = roads().rows()
        table = Table(line(0, 2), line(0, 1, 5), rows)
        rows[0][0] = "9"
        rows.pop()
        self.check_same(table, roads())
        told = table.rows()
        told[1][2] = "9"
        told.clear()
        self.check_same(table, roads())
        self.assertEqual(table.at("at2", "at5"), "2")

    def test_tables_that_are_worked_out(self):
        m = SpaceMap(line(0, 1), line(0, 1, 5), ["at0", "at1"])
        for make in (lambda: Table.own(line(0, 1)), lambda: roads() >> Table.own(line(0, 1, 5)),
                     lambda: roads() | roads(), lambda: roads() & roads(), lambda: forward(m), lambda: backward(m)):
            table = make()
            told = table.rows()
            told[0][0] = "far"
            told.pop()
            self.check_same(table, make())
        space = line(0, 1)
        Table.own(space).rows()[0][0] = "9"
        self.assertEqual(space, line(0, 1))


if __name__ == "__main__":
    unittest.main()
