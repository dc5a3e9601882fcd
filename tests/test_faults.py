"""Point 3: the rules of regular scales, and the first one that breaks."""

import itertools
import unittest

from farscale.families import ChainScale, PairScale, TurnedScale
from farscale.faults import first_fault
from farscale.scales import TableScale
from tests.at_hand import changed, irregular_scales, left_only, regular_scales

CHAIN = ChainScale(3)


def first_fault_by_words(scale):
    """The rules as the document words them, each told by a function of join and product."""
    orr, then, none, unit = scale.join, scale.then, scale.none, scale.unit
    rules = [
        ("join-same", lambda a: orr(a, a) == a),
        ("join-swap", lambda a, b: orr(a, b) == orr(b, a)),
        ("join-group", lambda a, b, c: orr(orr(a, b), c) == orr(a, orr(b, c))),
        ("join-none", lambda a: orr(a, none) == a),
        ("then-group", lambda a, b, c: then(then(a, b), c) == then(a, then(b, c))),
        ("then-unit", lambda a: (then(unit, a), then(a, unit)) == (a, a)),
        ("then-none", lambda a: (then(none, a), then(a, none)) == (none, none)),
        ("spread-left", lambda a, b, c: then(a, orr(b, c)) == orr(then(a, b), then(a, c))),
        ("spread-right", lambda a, b, c: then(orr(a, b), c) == orr(then(a, c), then(b, c))),
    ]
    for name, holds in rules:
        for told in itertools.product(scale.grades(), repeat=holds.__code__.co_argcount):
            if not holds(*told):
                return name, told
    return None


class NamedRules(unittest.TestCase):
    """Each rule broken first; the chain of three grades with a few entries changed."""

    def check(self, scale, rule, *grades):
        self.assertEqual(first_fault(scale), (rule, grades))

    def test_regular(self):
        for scale in regular_scales():
            self.assertIsNone(first_fault(scale))

    def test_join_same(self):
        self.check(changed(CHAIN, joins=[("0", "0", "1")]), "join-same", "0")
        self.check(changed(CHAIN, joins=[("1", "1", "0")]), "join-same", "1")
        self.check(changed(CHAIN, joins=[("1", "1", "2"), ("2", "2", "1")]), "join-same", "1")

    def test_join_swap(self):
        self.check(changed(CHAIN, joins=[("1", "2", "1")]), "join-swap", "1", "2")
        self.check(changed(CHAIN, joins=[("0", "2", "1"), ("1", "2", "1")]), "join-swap", "0", "2")

    def test_join_group(self):
        # (1 or 1) or 2 = 0, 1 or (1 or 2) = 1
        self.check(changed(CHAIN, joins=[("1", "2", "0"), ("2", "1", "0")]), "join-group", "1", "1", "2")
        # (0 or 1) or 2 = 2, 0 or (1 or 2) = 0
        self.check(changed(CHAIN, joins=[("0", "2", "0"), ("2", "0", "0")]), "join-group", "0", "1", "2")

    def test_join_none(self):
        self.check(changed(CHAIN, joins=[("0", "1", "0"), ("1", "0", "0")]), "join-none", "1")
        self.check(changed(CHAIN, none="2"), "join-none", "0")
        self.check(changed(CHAIN, none="1"), "join-none", "0")

    def test_then_group(self):
        # (1 then 2) then 2 = 1, 1 then (2 then 2) = 0
        self.check(changed(CHAIN, products=[("2", "2", "0")]), "then-group", "1", "2", "2")
        # (0 then 1) then 2 = 2, 0 then (1 then 2) = 0
        self.check(changed(CHAIN, products=[("0", "2", "2")]), "then-group", "0", "1", "2")

    def test_then_unit(self):
        self.check(changed(CHAIN, products=[("1", "2", "2")]), "then-unit", "1")
        self.check(changed(CHAIN, products=[("2", "1", "2")]), "then-unit", "1")
        self.check(changed(CHAIN, unit="0"), "then-unit", "1")
        self.check(changed(CHAIN, products=[("2", "2", "1")]), "then-unit", "2")

    def test_then_none(self):
        self.check(changed(CHAIN, products=[("0", "1", "1")]), "then-none", "1")
        self.check(changed(CHAIN, products=[("1", "0", "1")]), "then-none", "1")
        self.check(changed(CHAIN, products=[("0", "0", "1")]), "then-none", "0")

    def test_spread_left(self):
        # 1 then (1 or 2) = 1, (1 then 1) or (1 then 2) = 2
        self.check(changed(CHAIN, products=[("1", "1", "2")]), "spread-left", "1", "1", "2")
        self.check(TurnedScale(left_only()), "spread-left", "1", "2", "3")

    def test_spread_right(self):
        # (2 or 3) then 1 = 1, (2 then 1) or (3 then 1) = 2
        self.check(left_only(), "spread-right", "2", "3", "1")


class OrderOfRulesAndGrades(unittest.TestCase):

    def check_as_worded(self, scale):
        self.assertEqual(first_fault(scale), first_fault_by_words(scale))

    def test_grades_come_in_the_order_in_which_they_are_listed(self):
        # The same tables under names that are not listed by the alphabet.
        rows = [["z", "m", "a"], ["m", "m", "z"], ["a", "z", "a"]]
        products = [["z", "z", "z"], ["z", "m", "m"], ["z", "m", "a"]]
        scale = TableScale(["z", "m", "a"], rows, products, none="z", unit="a")
        self.assertEqual(first_fault(scale), ("join-group", ("m", "m", "a")))

    def test_an_earlier_rule_is_told_though_a_later_one_breaks_for_earlier_grades(self):
        # join-same breaks for 2 only, then-none and then-unit for 0.
        scale = changed(CHAIN, joins=[("2", "2", "0")], products=[("0", "0", "1")])
        self.assertEqual(first_fault(scale), ("join-same", ("2",)))
        # then-group breaks for 1, 2, 2 first, join-none for 0, as none is another grade.
        scale = changed(CHAIN, products=[("2", "2", "0")], none="2")
        self.assertEqual(first_fault(scale), ("join-none", ("0",)))
        # then-unit breaks for 2, then-group for grades of which 1 is the first.
        scale = changed(CHAIN, products=[("2", "2", "0")])
        self.assertEqual(first_fault(scale), ("then-group", ("1", "2", "2")))

    def test_all_tables_of_two_grades(self):
        names = ["0", "1"]
        tables = [[list(row[:2]), list(row[2:])] for row in itertools.product(names, repeat=4)]
        for joins, products, none, unit in itertools.product(tables, tables, names, names):
            self.check_as_worded(TableScale(names, joins, products, none=none, unit=unit))

    def test_chains_with_one_or_two_other_entries(self):
        cells = [(table, row, column, grade) for table in ("joins", "products")
                 for row, column, grade in itertools.product(CHAIN.grades(), repeat=3)]
        for first, second in itertools.combinations(cells, 2):
            told = {"joins": [], "products": []}
            for table, *change in (first, second):
                told[table].append(change)
            self.check_as_worded(changed(CHAIN, **told))

    def test_pairs_and_turned_scales_that_are_not_regular(self):
        for scale in irregular_scales():
            self.assertIsNotNone(first_fault(scale))
            self.check_as_worded(scale)
        broken = changed(CHAIN, joins=[("1", "1", "0")])
        self.assertEqual(first_fault(PairScale(broken, ChainScale(2))), ("join-same", ("1/0",)))
        self.assertEqual(first_fault(PairScale(ChainScale(2), broken)), ("join-same", ("0/1",)))

    def test_the_scale_is_not_changed(self):
        scale = left_only()
        first_fault(scale)
        self.assertEqual(scale, left_only())


if __name__ == "__main__":
    unittest.main()
