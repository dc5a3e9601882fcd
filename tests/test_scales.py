"""Points 1, 2 and 6: what every scale can be asked for."""

import itertools
import unittest

from farscale.errors import NameMissing, UnknownGrade
from farscale.families import ChainScale, DistanceScale, PairScale, StepScale, TurnedScale
from farscale.scales import Scale, TableScale
from tests.at_hand import (beyond_unit, changed, diamond, irregular_scales, left_only, regular_scales, single,
                           tables_of, told_again)
from tests.checks import Checks


class JoinsAndProducts(unittest.TestCase):

    def test_within_says_that_the_join_is_the_second_one(self):
        for scale in regular_scales() + irregular_scales():
            for a, b in itertools.product(scale.grades(), repeat=2):
                self.assertIs(scale.within(a, b), scale.join(a, b) == b)

    def test_within_by_hand(self):
        scale = diamond()
        self.assertTrue(scale.within("east", "both"))
        self.assertFalse(scale.within("both", "east"))
        self.assertFalse(scale.within("east", "west"))
        self.assertTrue(scale.within("no", "west"))
        self.assertTrue(scale.within("west", "west"))

    def test_unit_need_not_be_the_nearest_grade(self):
        self.assertTrue(beyond_unit().within("one", "many"))
        self.assertFalse(beyond_unit().within("many", "one"))
        self.assertTrue(StepScale(2).within("1001", "1111"))

    def test_within_of_scales_that_are_not_regular(self):
        # 1 or 2 = 1 and 2 or 1 = 2: each of the two lies within the other or not, as told.
        scale = changed(ChainScale(3), joins=[("1", "2", "1")])
        self.assertIs(scale.within("1", "2"), False)
        self.assertIs(scale.within("2", "1"), False)
        scale = changed(ChainScale(3), joins=[("2", "1", "1"), ("1", "1", "0")])
        self.assertIs(scale.within("1", "2"), True)
        self.assertIs(scale.within("2", "1"), True)
        self.assertIs(scale.within("1", "1"), False)

    def test_joined(self):
        self.assertEqual(ChainScale(5).joined(["2", "0", "3", "1"]), "3")
        self.assertEqual(DistanceScale(5).joined(["4", "far", "2"]), "2")
        self.assertEqual(diamond().joined(["east", "no", "west"]), "both")
        self.assertEqual(StepScale(2).joined(["1000", "0001", "1000"]), "1001")

    def test_joined_of_the_empty_list_is_none(self):
        for scale in regular_scales() + irregular_scales():
            self.assertEqual(scale.joined([]), scale.none)

    def test_joined_begins_with_none_and_goes_from_left_to_right(self):
        names = ["a", "b", "c"]
        joins = [["b", "c", "a"], ["a", "a", "c"], ["b", "b", "a"]]
        scale = TableScale(names, joins, joins, none="c", unit="a")
        self.assertEqual(scale.joined(["a"]), "b")
        self.assertEqual(scale.joined(["c"]), "a")
        self.assertEqual(scale.joined(["a", "c"]), "c")
        self.assertEqual(scale.joined(["a", "c", "b"]), "b")
        for scale in irregular_scales():
            for told in itertools.product(scale.grades(), repeat=2):
                expected = scale.join(scale.join(scale.none, told[0]), told[1])
                self.assertEqual(scale.joined(list(told)), expected)

    def test_joined_leaves_the_list_as_it_is(self):
        told = ["2", "0", "3"]
        ChainScale(5).joined(told)
        self.assertEqual(told, ["2", "0", "3"])


class GreatestGrades(unittest.TestCase):

    def check_greatest(self, scale, found, fits):
        """found fits, and each other grade that fits lies within it."""
        self.assertTrue(fits(found))
        for grade in scale.grades():
            if fits(grade):
                self.assertTrue(scale.within(grade, found))

    def test_by_their_meaning(self):
        for scale in regular_scales():
            for a, b in itertools.product(scale.grades(), repeat=2):
                self.check_greatest(scale, scale.meet(a, b),
                                    lambda c: scale.within(c, a) and scale.within(c, b))
                self.check_greatest(scale, scale.under(a, b), lambda c: scale.within(scale.then(a, c), b))
                self.check_greatest(scale, scale.over(b, a), lambda c: scale.within(scale.then(c, a), b))

    def test_chains(self):
        scale = ChainScale(5)
        self.assertEqual(scale.meet("1", "3"), "1")
        self.assertEqual(scale.under("3", "1"), "1")
        self.assertEqual(scale.under("1", "3"), "4")
        self.assertEqual(scale.over("1", "3"), "1")
        self.assertEqual(scale.over("3", "1"), "4")

    def test_distances(self):
        scale = DistanceScale(5)
        self.assertEqual(scale.meet("3", "5"), "5")
        self.assertEqual(scale.meet("far", "0"), "far")
        self.assertEqual(scale.under("2", "5"), "3")
        self.assertEqual(scale.over("5", "2"), "3")
        self.assertEqual(scale.under("5", "2"), "0")
        self.assertEqual(scale.over("2", "5"), "0")
        self.assertEqual(scale.under("3", "far"), "3")
        self.assertEqual(scale.under("far", "far"), "0")

    def test_under_and_over_are_unlike(self):
        scale = StepScale(2)
        self.assertEqual(scale.under("0100", "0000"), "1100")
        self.assertEqual(scale.over("0000", "0100"), "0101")

    def test_a_meet_may_be_a_third_grade(self):
        self.assertEqual(diamond().meet("east", "west"), "no")
        self.assertEqual(PairScale(ChainScale(2), ChainScale(2)).meet("0/1", "1/0"), "0/0")

    def test_one_grade(self):
        for scale, grade in ((single(), "g"), (ChainScale(1), "0")):
            self.assertEqual(scale.meet(grade, grade), grade)
            self.assertEqual(scale.under(grade, grade), grade)
            self.assertEqual(scale.over(grade, grade), grade)


class GradesThatThereAreNot(unittest.TestCase):

    def check(self, name, call, *told):
        with self.subTest(told), self.assertRaises(UnknownGrade) as caught:
            call(*told)
        self.assertEqual(caught.exception.name, name)
        self.assertIsInstance(caught.exception, NameMissing)

    def test_first_and_second_argument(self):
        for scale in (ChainScale(3), StepScale(1), told_again(ChainScale(2)), TurnedScale(ChainScale(2)), diamond(),
                      PairScale(ChainScale(2), ChainScale(2))):
            for way in ("join", "then", "within", "meet", "under", "over"):
                call = getattr(scale, way)
                self.check("x", call, "x", scale.unit)
                self.check("x", call, scale.unit, "x")
                self.check("x", call, "x", "x")
                self.check("x", call, "x", "y")
                self.check("y", call, "y", "x")
                self.check("", call, scale.none, "")

    def test_irregular_scales_raise_it_too(self):
        for scale in irregular_scales():
            for way in ("join", "then", "within"):
                self.check("x", getattr(scale, way), "x", scale.none)
                self.check("x", getattr(scale, way), scale.none, "x")
            self.check("x", scale.joined, ["x"])

    def test_names_that_come_close(self):
        self.check("16", ChainScale(16).join, "15", "16")
        self.check("00", ChainScale(16).join, "00", "0")
        self.check("far", ChainScale(3).join, "0", "far")
        self.check("6", DistanceScale(5).then, "6", "0")
        self.check("1", PairScale(ChainScale(2), ChainScale(2)).then, "1/1", "1")
        self.check("11", StepScale(2).then, "11", "1111")

    def test_entries_of_joined(self):
        scale = ChainScale(4)
        self.check("x", scale.joined, ["x"])
        self.check("x", scale.joined, ["0", "x", "1"])
        self.check("x", scale.joined, ["3", "x", "y"])
        self.check("y", scale.joined, ["3", "2", "y"])
        self.check("4", scale.joined, ["3", "4", "x"])


class ListsThatAreTold(unittest.TestCase):

    def test_grades_belong_to_the_caller(self):
        for scale in regular_scales() + irregular_scales():
            expected = scale.grades()
            told = scale.grades()
            self.assertIsNot(told, scale.grades())
            told.reverse()
            told.append("x")
            self.assertEqual(scale.grades(), expected)
            self.assertNotIn("x", scale)

    def test_told_grades_do_not_reach_into_scales_of_scales(self):
        inner = ChainScale(2)
        pair, turned = PairScale(inner, inner), TurnedScale(inner)
        inner.grades().clear()
        turned.grades().clear()
        pair.left.grades().clear()
        self.assertEqual(pair.grades(), ["0/0", "0/1", "1/0", "1/1"])
        self.assertEqual(turned.grades(), ["0", "1"])

    def test_scales_of_scales_leave_them_as_they_are(self):
        inner = left_only()
        PairScale(inner, inner)
        TurnedScale(inner)
        self.assertEqual(inner, left_only())


class SameScales(Checks):

    def test_told_in_different_ways(self):
        self.check_same(ChainScale(3), ChainScale(3))
        self.check_same(ChainScale(16), told_again(ChainScale(16)))
        self.check_same(DistanceScale(4), told_again(DistanceScale(4)))
        self.check_same(StepScale(2), told_again(StepScale(2)))
        self.check_same(StepScale(1), ChainScale(2))
        self.check_same(diamond(), diamond())
        self.check_same(left_only(), left_only())

    def test_turned_and_turned_back(self):
        for scale in regular_scales() + irregular_scales():
            self.check_same(TurnedScale(TurnedScale(scale)), scale)
        self.check_same(TurnedScale(DistanceScale(3)), DistanceScale(3))
        self.check_other(TurnedScale(StepScale(2)), StepScale(2))
        self.check_other(TurnedScale(left_only()), left_only())

    def test_pairs(self):
        chain, near, steps = ChainScale(2), DistanceScale(1), StepScale(1)
        self.check_same(PairScale(chain, near), PairScale(steps, told_again(near)))
        self.check_same(PairScale(PairScale(chain, near), chain), PairScale(chain, PairScale(near, chain)))
        self.check_same(TurnedScale(PairScale(left_only(), chain)),
                        PairScale(TurnedScale(left_only()), TurnedScale(chain)))
        self.check_other(PairScale(chain, near), PairScale(near, chain))
        self.check_other(PairScale(ChainScale(1), chain), chain)

    def test_one_thing_that_differs(self):
        chain = ChainScale(3)
        self.check_other(chain, ChainScale(2))
        self.check_other(chain, changed(chain, joins=[("2", "0", "1")]))
        self.check_other(chain, changed(chain, products=[("2", "0", "1")]))
        self.check_other(chain, changed(chain, none="1"))
        self.check_other(chain, changed(chain, unit="1"))
        self.check_other(DistanceScale(2), DistanceScale(3))

    def test_another_order_of_the_grades(self):
        names, joins, products = tables_of(diamond())
        order = [3, 1, 0, 2]
        other = TableScale([names[i] for i in order], [[joins[i][j] for j in order] for i in order],
                           [[products[i][j] for j in order] for i in order], none="no", unit="both")
        self.check_other(diamond(), other)
        for a, b in itertools.product(names, repeat=2):
            self.assertEqual(diamond().join(a, b), other.join(a, b))

    def test_other_names(self):
        self.check_other(ChainScale(1), single())

    def test_what_is_no_scale(self):
        scale = ChainScale(2)
        for thing in (None, 0, 1, "0", "", [], ["0", "1"], ("0", "1"), {}, {"0": "1"}, object(), Scale, ChainScale):
            self.check_other(scale, thing)


class GradesInScales(unittest.TestCase):

    def test_in(self):
        for scale in regular_scales() + irregular_scales():
            for grade in scale.grades():
                self.assertIs(grade in scale, True)
            for name in ("", "x", "0/", "/0", " ", "00", scale.unit + "/", "far/far/far/far"):
                self.assertIs(name in scale, False)

    def test_in_one_scale_and_not_in_another(self):
        self.assertTrue("far" in DistanceScale(0))
        self.assertFalse("far" in ChainScale(2))
        self.assertTrue("15" in ChainScale(16))
        self.assertFalse("16" in ChainScale(16))
        self.assertTrue("1/far" in PairScale(ChainScale(2), DistanceScale(0)))
        self.assertFalse("far/1" in PairScale(ChainScale(2), DistanceScale(0)))
        self.assertFalse("1" in PairScale(ChainScale(2), DistanceScale(0)))


if __name__ == "__main__":
    unittest.main()
