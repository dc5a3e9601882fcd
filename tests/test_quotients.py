"""Points 1, 16 and 17: quotients of tables, and partners."""

import itertools
import unittest

from farscale.errors import MixedSpaces
from farscale.families import ChainScale, DistanceScale, StepScale, TurnedScale
from farscale.quotients import over, partner, partnerless, under
from farscale.searches import all_maps
from farscale.spaces import Space, turned
from farscale.tables import Table, backward, forward
from tests.at_hand import (all_rows, beyond_unit, diamond, distances, further_names, loops, met, moves, no_table,
                           over_by_words, regular_scales, sided, sides, single, single_point, small_scales, some_space,
                           some_table, under_by_words)
from tests.checks import Checks


def all_tables(source, target):
    """All tables between two small spaces."""
    return [Table(source, target, rows) for rows in all_rows(source.scale, len(source), len(target))
            if no_table(source, target, rows) is None]


def is_partner(table, back):
    return Table.own(table.source).within(table >> back) and (back >> table).within(Table.own(table.target))


class QuotientTest(Checks):

    def check_under(self, first, second):
        scale, y_points, z_points = first.source.scale, first.target.points(), second.target.points()
        rows = [[met(scale, [under_by_words(scale, first.at(x, y), second.at(x, z)) for x in first.source.points()])
                 for z in z_points] for y in y_points]
        found = under(first, second)
        self.assertIs(type(found), Table)
        self.check_same(found, Table(first.target, second.target, rows))
        self.assertTrue((first >> found).within(second))
        return found

    def check_over(self, first, second):
        scale, x_points, y_points = first.source.scale, first.source.points(), second.source.points()
        rows = [[met(scale, [over_by_words(scale, first.at(x, z), second.at(y, z)) for z in first.target.points()])
                 for y in y_points] for x in x_points]
        found = over(first, second)
        self.assertIs(type(found), Table)
        self.check_same(found, Table(first.source, second.source, rows))
        self.assertTrue((found >> second).within(first))
        return found


class Quotients(QuotientTest):

    def test_by_hand(self):
        scale = DistanceScale(9)
        two = Space(scale, ["a", "b"], [["0", "9"], ["9", "0"]])
        one = single_point(scale)
        first, second = Table(two, one, [["2"], ["5"]]), Table(two, one, [["6"], ["7"]])
        self.assertEqual(under(first, second).rows(), [["4"]])
        first, second = Table(one, two, [["6", "7"]]), Table(one, two, [["2", "5"]])
        self.assertEqual(over(first, second).rows(), [["4"]])

    def test_unlike_products(self):
        one = single_point(sided())
        low, high, no = (Table(one, one, [[grade]]) for grade in ("low", "high", "no"))
        self.assertEqual(under(high, no).rows(), [["low"]])
        self.assertEqual(over(no, high).rows(), [["no"]])
        self.assertEqual(under(low, no).rows(), [["low"]])
        self.assertEqual(over(no, low).rows(), [["high"]])

    def test_looked_up_among_all_tables(self):
        for scale in small_scales():
            for counts in ((1, 1, 1), (2, 1, 2), (1, 2, 2), (2, 2, 1), (0, 2, 1), (0, 1, 0), (1, 0, 2)):
                a, b, c = (some_space(scale, count, seed) for seed, count in enumerate(counts))
                for seed in range(3):
                    first, second = some_table(a, b, seed), some_table(a, c, seed + 10)
                    found = self.check_under(first, second)
                    for table in all_tables(b, c):
                        self.assertIs(table.within(found), (first >> table).within(second))
                    first, second = some_table(b, a, seed), some_table(c, a, seed + 10)
                    found = self.check_over(first, second)
                    for table in all_tables(b, c):
                        self.assertIs(table.within(found), (table >> second).within(first))

    def test_many_grades(self):
        for scale in regular_scales():
            for counts in ((1, 1, 1), (2, 3, 2), (3, 1, 2), (3, 2, 3)):
                a, b, c = (some_space(scale, count, seed) for seed, count in enumerate(counts))
                for seed in range(3):
                    self.check_under(some_table(a, b, seed), some_table(a, c, seed + 10))
                    self.check_over(some_table(b, a, seed), some_table(c, a, seed + 10))

    def test_spaces_by_hand(self):
        for space in (distances(), sides(), loops(), moves(), turned(moves()), further_names()):
            tables = [Table.own(space), some_table(space, space, 1), some_table(space, space, 2)]
            for first, second in itertools.product(tables, repeat=2):
                self.check_under(first, second)
                self.check_over(first, second)

    def test_own_leaves_a_table_as_it_is(self):
        for scale in regular_scales():
            a, b = some_space(scale, 3, seed=1), some_space(scale, 2, seed=2)
            table = some_table(a, b, 3)
            self.check_same(under(Table.own(a), table), table)
            self.check_same(over(table, Table.own(b)), table)

    def test_the_meet_of_no_grades(self):
        for scale in regular_scales():
            top = greatest_grade(scale)
            empty, two, three = Space(scale, [], []), some_space(scale, 2), some_space(scale, 3)
            found = self.check_under(Table(empty, two, []), Table(empty, three, []))
            self.assertEqual(found.rows(), [[top] * 3] * 2)
            found = self.check_over(Table(two, empty, [[]] * 2), Table(three, empty, [[]] * 3))
            self.assertEqual(found.rows(), [[top] * 3] * 2)

    def test_quotients_without_points(self):
        for scale in regular_scales():
            empty, two = Space(scale, [], []), some_space(scale, 2)
            none, all_none = Table(two, empty, [[]] * 2), Table(empty, two, [])
            self.assertEqual(self.check_under(Table.own(two), none).rows(), [[], []])
            self.assertEqual(self.check_under(none, Table.own(two)).rows(), [])
            self.assertEqual(self.check_over(Table.own(two), all_none).rows(), [[], []])
            self.assertEqual(self.check_over(all_none, Table.own(two)).rows(), [])
            self.assertEqual(self.check_under(Table.own(empty), Table.own(empty)).rows(), [])

    def test_mixed_spaces(self):
        space = distances()
        nearer = Space(space.scale, space.points(), [["0", "1", "4"], ["4", "0", "3"], ["far", "far", "0"]])
        smaller = Space(DistanceScale(8), space.points(), space.rows())
        renamed = Space(space.scale, ["a", "b", "d"], space.rows())
        for other in (nearer, smaller, renamed, turned(space), single_point(space.scale), moves(), single_point(single())):
            self.check_raises(MixedSpaces, {}, under, Table.own(space), Table.own(other))
            self.check_raises(MixedSpaces, {}, over, Table.own(space), Table.own(other))
        one = single_point(space.scale)
        ahead, back = some_table(space, one, 1), some_table(one, space, 2)
        self.check_raises(MixedSpaces, {}, under, ahead, back)
        self.check_raises(MixedSpaces, {}, over, ahead, back)
        # The same target, but not the same source, and the other way round.
        self.check_raises(MixedSpaces, {}, under, ahead, Table.own(one))
        self.check_raises(MixedSpaces, {}, over, back, Table.own(one))

    def test_mixed_spaces_without_points(self):
        two, three = Space(ChainScale(2), [], []), Space(ChainScale(3), [], [])
        for quotient in (under, over):
            self.check_raises(MixedSpaces, {}, quotient, Table.own(two), Table.own(three))
            self.check_raises(MixedSpaces, {}, quotient, Table.own(two), Table.own(single_point(ChainScale(2))))
            self.check_raises(MixedSpaces, {}, quotient, Table.own(single_point(ChainScale(2))), Table.own(two))

    def test_the_tables_are_left_alone(self):
        space = moves()
        first, second = some_table(space, space, 1), some_table(space, space, 2)
        for quotient in (under, over):
            found = quotient(first, second)
            found.rows()[0][0] = "x"
            self.check_same(found, quotient(first, second))
        self.check_same(first, some_table(space, space, 1))
        self.check_same(second, some_table(space, space, 2))


def greatest_grade(scale):
    return scale.joined(scale.grades())


class Partners(QuotientTest):

    def check_partner(self, table, among):
        """The partner looked up among tables, at most one, and the word of partnerless by its words."""
        right = [back for back in among if is_partner(table, back)]
        self.assertLessEqual(len(right), 1)
        self.assertEqual([back for back in [partner(table)] if back is not None], right)
        self.check_word(table)
        return partner(table)

    def check_word(self, table):
        both = table >> over(Table.own(table.target), table)
        scale = table.source.scale
        short = [x for x in table.source.points() if scale.join(scale.unit, both.at(x, x)) != both.at(x, x)]
        self.assertEqual(partnerless(table), short[0] if short else None)
        self.assertIs(partnerless(table) is None, partner(table) is not None)

    def test_tables_of_maps(self):
        for scale in regular_scales():
            for many, count in ((1, 3), (2, 2), (3, 2), (0, 2), (0, 0)):
                for m in all_maps(some_space(scale, many, seed=1), some_space(scale, count, seed=2)):
                    self.check_same(partner(forward(m)), backward(m))
                    self.assertIsNone(partnerless(forward(m)))
        for space in (moves(), turned(moves()), sides(), loops(), distances(), further_names()):
            self.check_same(partner(Table.own(space)), Table.own(space))
            for m in all_maps(space, space):
                self.check_same(partner(forward(m)), backward(m))

    def test_looked_up_among_all_tables(self):
        found = []
        for scale in small_scales():
            for many, count in ((1, 1), (1, 2), (2, 1), (2, 2), (0, 1), (1, 0), (0, 0)):
                for seed in range(3):
                    source, target = some_space(scale, many, seed + 1), some_space(scale, count, seed + 2)
                    among = all_tables(target, source)
                    for table in all_tables(source, target)[::3]:
                        found.append(self.check_partner(table, among) is not None)
        self.assertGreater(found.count(True), 50)
        self.assertGreater(found.count(False), 50)

    def test_many_grades(self):
        for scale in regular_scales():
            source, target = some_space(scale, 1, seed=2), some_space(scale, 2, seed=3)
            among = all_tables(target, source)
            for table in all_tables(source, target)[::20]:
                self.check_partner(table, among)
            for seed in range(3):
                self.check_word(some_table(some_space(scale, 3), some_space(scale, 3, seed=1), seed))

    def test_a_partner_beside_no_map(self):
        # The table leads to both points of the target, half each: no point of it does alone.
        one = single_point(diamond())
        two = Space(diamond(), ["a", "b"], [["both", "no"], ["no", "both"]])
        table = Table(one, two, [["east", "west"]])
        self.check_same(partner(table), Table(two, one, [["east"], ["west"]]))
        self.assertNotIn(table, [forward(m) for m in all_maps(one, two)])

    def test_the_first_point_without_a_partner(self):
        scale = DistanceScale(9)
        source = Space(scale, ["c", "a", "b"], [["0", "far", "far"], ["far", "0", "far"], ["far", "far", "0"]])
        one = single_point(scale)
        self.assertEqual(partnerless(Table(source, one, [["0"], ["3"], ["2"]])), "a")
        self.assertEqual(partnerless(Table(source, one, [["0"], ["0"], ["2"]])), "b")
        self.assertEqual(partnerless(Table(source, one, [["1"], ["0"], ["2"]])), "c")
        self.assertIsNone(partnerless(Table(source, one, [["0"], ["0"], ["0"]])))
        self.assertIsNone(partner(Table(source, one, [["0"], ["0"], ["2"]])))

    def test_unlike_products(self):
        # Relations that lead each state to just one state have a partner: going back.
        for scale, expected in ((StepScale(2), ["0101", "0110", "1001", "1010"]),
                                (TurnedScale(StepScale(2)), ["0011", "0110", "1001", "1100"])):
            one = single_point(scale)
            among = all_tables(one, one)
            right = [table.rows()[0][0] for table in among if self.check_partner(table, among) is not None]
            self.assertEqual(right, expected)

    def test_no_points(self):
        for scale in regular_scales():
            empty, one = Space(scale, [], []), single_point(scale)
            self.check_same(partner(Table(empty, one, [])), Table(one, empty, [[]]))
            self.check_same(partner(Table(empty, empty, [])), Table(empty, empty, []))
            missing = None if scale.unit == scale.none else "one"
            self.assertEqual(partnerless(Table(one, empty, [[]])), missing)

    def test_the_table_is_left_alone(self):
        table = some_table(moves(), moves(), 3)
        partner(table)
        partnerless(table)
        self.check_same(table, some_table(moves(), moves(), 3))


if __name__ == "__main__":
    unittest.main()
