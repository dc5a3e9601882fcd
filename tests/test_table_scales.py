"""Point 4: scales told by tables, and what makes none."""

import copy
import unittest

from farscale.errors import BadScale
from farscale.scales import TableScale
from tests.at_hand import diamond, irregular_scales, left_only, single

NAMES = ["a", "b", "c"]
JOINS = [["a", "b", "c"], ["b", "b", "c"], ["c", "c", "c"]]
PRODUCTS = [["a", "a", "a"], ["a", "b", "b"], ["a", "b", "c"]]


def made(names=NAMES, joins=JOINS, products=PRODUCTS, none="a", unit="c"):
    return TableScale(names, joins, products, none=none, unit=unit)


def flat(names):
    """A scale with these names in which each entry is the first one."""
    rows = [[names[0] for _ in names] for _ in names]
    return TableScale(names, rows, rows, none=names[0], unit=names[-1])


class OrdinaryTables(unittest.TestCase):

    def test_entries_are_read_by_row_then_column(self):
        names = ["p", "q"]
        scale = TableScale(names, [["p", "q"], ["p", "p"]], [["q", "p"], ["q", "q"]], none="q", unit="p")
        self.assertEqual(scale.join("p", "q"), "q")
        self.assertEqual(scale.join("q", "p"), "p")
        self.assertEqual(scale.then("p", "q"), "p")
        self.assertEqual(scale.then("q", "p"), "q")
        self.assertEqual((scale.none, scale.unit), ("q", "p"))

    def test_grades_come_as_they_were_told(self):
        self.assertEqual(made().grades(), ["a", "b", "c"])
        self.assertEqual(diamond().grades(), ["both", "east", "west", "no"])
        self.assertEqual(made(none="c", unit="a").none, "c")
        self.assertEqual(made(none="c", unit="a").unit, "a")

    def test_a_join_may_be_a_third_grade(self):
        self.assertEqual(diamond().join("east", "west"), "both")

    def test_one_grade_is_none_and_unit(self):
        scale = single()
        self.assertEqual((scale.grades(), scale.none, scale.unit), (["g"], "g", "g"))
        self.assertEqual((scale.join("g", "g"), scale.then("g", "g")), ("g", "g"))

    def test_none_and_unit_may_be_one_among_more(self):
        scale = made(none="b", unit="b")
        self.assertEqual((scale.none, scale.unit), ("b", "b"))

    def test_sixteen_grades(self):
        names = [f"g{k}" for k in range(16)]
        self.assertEqual(flat(names).grades(), names)

    def test_names_of_all_marks_and_lengths(self):
        names = ["0", "abcdefghijkl", "mnopqrstuvwx", "yz0123456789", "9lives", "7"]
        self.assertEqual(flat(names).grades(), names)

    def test_irregular_scales_can_be_made_and_asked(self):
        self.assertEqual(left_only().then("1", "2"), "1")
        self.assertEqual(left_only().then("2", "1"), "2")
        for scale in irregular_scales():
            self.assertTrue(scale.none in scale and scale.unit in scale)


class ListsOfTheCaller(unittest.TestCase):

    def test_arguments_are_not_modified(self):
        told = [list(NAMES), copy.deepcopy(JOINS), copy.deepcopy(PRODUCTS)]
        TableScale(*told, none="a", unit="c")
        self.assertEqual(told, [NAMES, JOINS, PRODUCTS])

    def test_changes_of_what_was_handed_in_change_nothing(self):
        names, joins, products = list(NAMES), copy.deepcopy(JOINS), copy.deepcopy(PRODUCTS)
        scale = TableScale(names, joins, products, none="a", unit="c")
        names[0] = "z"
        names.append("y")
        joins[0][1] = "c"
        joins[1] = ["a", "a", "a"]
        products[1][2] = "c"
        products.pop()
        self.assertEqual(scale, made())
        self.assertEqual(scale.grades(), ["a", "b", "c"])
        self.assertEqual((scale.join("a", "b"), scale.then("b", "c")), ("b", "b"))

    def test_one_list_for_both_tables_and_all_rows(self):
        row = ["a", "a"]
        rows = [row, row]
        scale = TableScale(["a", "b"], rows, rows, none="a", unit="b")
        row[0] = "b"
        self.assertEqual([scale.join("a", "a"), scale.then("b", "a")], ["a", "a"])


class WrongTables(unittest.TestCase):

    def check_bad(self, **told):
        with self.assertRaises(BadScale):
            made(**told)

    def test_no_names(self):
        self.check_bad(names=[], joins=[], products=[], none="a", unit="a")

    def test_more_than_sixteen_names(self):
        with self.assertRaises(BadScale):
            flat([f"g{k}" for k in range(17)])

    def test_a_name_twice(self):
        self.check_bad(names=["a", "b", "a"])
        self.check_bad(names=["a", "b", "b"])
        with self.assertRaises(BadScale):
            TableScale(["a", "a"], [["a", "a"], ["a", "a"]], [["a", "a"], ["a", "a"]], none="a", unit="a")

    def test_names_of_other_marks_or_lengths(self):
        for name in ("", "abcdefghijklm", "A", "aB", "a b", " ", "a/b", "a.b", "a_b", "-1", "a\n", "\u00e9",
                     "\u00b2", "\u0663", "~", "1.5", "`", "{"):
            with self.subTest(name), self.assertRaises(BadScale):
                flat([name])
            with self.subTest(name), self.assertRaises(BadScale):
                flat(["ok", name])

    def test_too_few_or_many_rows(self):
        for table, rows in (("joins", JOINS), ("products", PRODUCTS)):
            self.check_bad(**{table: rows[:2]})
            self.check_bad(**{table: []})
            self.check_bad(**{table: rows + [rows[0]]})

    def test_too_short_or_long_rows(self):
        for table, rows in (("joins", JOINS), ("products", PRODUCTS)):
            for place in range(3):
                short, long = copy.deepcopy(rows), copy.deepcopy(rows)
                short[place].pop()
                long[place].append("a")
                self.check_bad(**{table: short})
                self.check_bad(**{table: long})
        self.check_bad(joins=[["a", "b"], ["b", "b", "c", "c"], ["c", "c", "c"]])

    def test_entries_that_are_no_names(self):
        for table, rows in (("joins", JOINS), ("products", PRODUCTS)):
            for row in range(3):
                for column in range(3):
                    wrong = copy.deepcopy(rows)
                    wrong[row][column] = "d"
                    self.check_bad(**{table: wrong})
                    wrong[row][column] = ""
                    self.check_bad(**{table: wrong})

    def test_none_or_unit_that_is_no_name(self):
        self.check_bad(none="d")
        self.check_bad(unit="d")
        self.check_bad(none="")
        self.check_bad(unit="ab")


if __name__ == "__main__":
    unittest.main()
