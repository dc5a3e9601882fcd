"""Point 5: the families of scales, and scales of scales."""

import itertools
import unittest

from farscale.errors import BadScale
from farscale.families import ChainScale, DistanceScale, PairScale, StepScale, TurnedScale
from farscale.faults import first_fault
from farscale.scales import Scale
from tests.at_hand import beyond_unit, changed, diamond, irregular_scales, left_only, regular_scales


class FamilyTest(unittest.TestCase):

    def check_bad(self, make, *told):
        with self.subTest(told), self.assertRaises(BadScale):
            make(*told)

    def check_pairs(self, scale, join, then):
        """Join and product of each two grades are what the two functions say."""
        for a, b in itertools.product(scale.grades(), repeat=2):
            self.assertEqual(scale.join(a, b), join(a, b), ("join", a, b))
            self.assertEqual(scale.then(a, b), then(a, b), ("then", a, b))


class ChainTest(FamilyTest):

    def test_grades_none_and_unit(self):
        scale = ChainScale(12)
        self.assertEqual(scale.grades(), ["0", "1", "2", "3", "4", "5", "6", "7", "8", "9", "10", "11"])
        self.assertEqual((scale.none, scale.unit), ("0", "11"))

    def test_join_is_the_greater_and_product_the_lesser_number(self):
        for count in (1, 2, 3, 12, 16):
            self.check_pairs(ChainScale(count), lambda a, b: max(a, b, key=int), lambda a, b: min(a, b, key=int))
        self.assertEqual(ChainScale(12).join("9", "10"), "10")
        self.assertEqual(ChainScale(12).then("9", "10"), "9")

    def test_one_grade(self):
        scale = ChainScale(1)
        self.assertEqual((scale.grades(), scale.none, scale.unit), (["0"], "0", "0"))

    def test_bounds(self):
        self.assertEqual(len(ChainScale(16).grades()), 16)
        for count in (0, -1, -16, 17, 100, 10 ** 12):
            self.check_bad(ChainScale, count)


class DistanceTest(FamilyTest):

    def test_grades_none_and_unit(self):
        scale = DistanceScale(3)
        self.assertEqual(scale.grades(), ["0", "1", "2", "3", "far"])
        self.assertEqual((scale.none, scale.unit), ("far", "0"))

    def test_join_is_the_lesser_number_and_product_the_sum(self):
        for most in (0, 1, 3, 14):
            def number(grade):
                return 1000 if grade == "far" else int(grade)

            def grade_of(told, most=most):
                return "far" if told > most else str(told)

            self.check_pairs(DistanceScale(most), lambda a, b: grade_of(min(number(a), number(b))),
                             lambda a, b: grade_of(number(a) + number(b)))

    def test_sums_around_most(self):
        scale = DistanceScale(5)
        self.assertEqual(scale.then("2", "3"), "5")
        self.assertEqual(scale.then("3", "3"), "far")
        self.assertEqual(scale.then("far", "0"), "far")
        self.assertEqual(scale.then("0", "far"), "far")
        self.assertEqual(scale.join("far", "5"), "5")
        self.assertEqual(scale.join("5", "far"), "5")
        self.assertEqual(scale.join("far", "far"), "far")

    def test_most_may_be_nought(self):
        scale = DistanceScale(0)
        self.assertEqual((scale.grades(), scale.none, scale.unit), (["0", "far"], "far", "0"))
        self.assertEqual(scale.then("0", "0"), "0")
        self.assertEqual(scale.join("0", "far"), "0")

    def test_lesser_distances_are_nearer(self):
        scale = DistanceScale(5)
        self.assertTrue(scale.within("5", "3"))
        self.assertFalse(scale.within("3", "5"))
        self.assertEqual(scale.join("5", "3"), "3")

    def test_bounds(self):
        self.assertEqual(len(DistanceScale(14).grades()), 16)
        for most in (-1, -2, -20, 15, 16, 10 ** 12):
            self.check_bad(DistanceScale, most)


class StepTest(FamilyTest):

    def related(self, name, states):
        return {(at // states, at % states) for at in range(states * states) if name[at] == "1"}

    def name_of(self, pairs, states):
        return "".join("1" if (i, k) in pairs else "0" for i in range(states) for k in range(states))

    def test_grades_none_and_unit(self):
        scale = StepScale(1)
        self.assertEqual((scale.grades(), scale.none, scale.unit), (["0", "1"], "0", "1"))
        scale = StepScale(2)
        self.assertEqual(scale.grades(), [f"{k:04b}" for k in range(16)])
        self.assertEqual((scale.none, scale.unit), ("0000", "1001"))

    def test_join_is_the_union_and_product_goes_by_a_state_between(self):
        for states in (1, 2):
            def union(a, b, states=states):
                return self.name_of(self.related(a, states) | self.related(b, states), states)

            def by_a_state(a, b, states=states):
                first, second = self.related(a, states), self.related(b, states)
                return self.name_of({(i, k) for i, j in first for h, k in second if j == h}, states)

            self.check_pairs(StepScale(states), union, by_a_state)

    def test_some_products_by_hand(self):
        scale = StepScale(2)
        self.assertEqual(scale.then("0100", "0010"), "1000")
        self.assertEqual(scale.then("0010", "0100"), "0001")
        self.assertEqual(scale.then("0100", "0100"), "0000")
        self.assertEqual(scale.then("1100", "0001"), "0100")
        self.assertEqual(scale.join("0100", "0010"), "0110")

    def test_bounds(self):
        for states in (0, -1, 3, 4, 16, 10 ** 9):
            self.check_bad(StepScale, states)


class PairTest(FamilyTest):

    def test_grades_are_ordered_by_the_left_half_first(self):
        scale = PairScale(beyond_unit(), ChainScale(2))
        self.assertEqual(scale.grades(), ["one/0", "one/1", "many/0", "many/1", "no/0", "no/1"])
        self.assertEqual((scale.none, scale.unit), ("no/0", "one/1"))

    def test_everything_is_worked_out_half_by_half(self):
        scales = [(ChainScale(3), DistanceScale(2)), (DistanceScale(1), beyond_unit()),
                  (left_only(), ChainScale(2)), (ChainScale(1), StepScale(2)), (ChainScale(2), left_only())]
        unlike = changed(ChainScale(3), joins=[("1", "2", "1")])
        scales += [(unlike, ChainScale(2)), (ChainScale(2), unlike)]
        for left, right in scales:
            def halves(name):
                return name.split("/")

            def join(a, b, left=left, right=right):
                (p, q), (r, s) = halves(a), halves(b)
                return left.join(p, r) + "/" + right.join(q, s)

            def then(a, b, left=left, right=right):
                (p, q), (r, s) = halves(a), halves(b)
                return left.then(p, r) + "/" + right.then(q, s)

            self.check_pairs(PairScale(left, right), join, then)

    def test_meet_under_and_over_half_by_half(self):
        left, right = DistanceScale(2), TurnedScale(beyond_unit())
        scale = PairScale(left, right)
        for a, b, c, d in itertools.product(left.grades(), right.grades(), left.grades(), right.grades()):
            for way in ("meet", "under", "over"):
                self.assertEqual(getattr(scale, way)(f"{a}/{b}", f"{c}/{d}"),
                                 f"{getattr(left, way)(a, c)}/{getattr(right, way)(b, d)}")

    def test_left_and_right_are_kept(self):
        left, right = ChainScale(3), DistanceScale(2)
        scale = PairScale(left, right)
        self.assertIs(scale.left, left)
        self.assertIs(scale.right, right)

    def test_pairs_of_pairs(self):
        inner = PairScale(ChainScale(2), DistanceScale(0))
        scale = PairScale(inner, TurnedScale(ChainScale(2)))
        self.assertEqual(scale.grades(), ["0/0/0", "0/0/1", "0/far/0", "0/far/1",
                                          "1/0/0", "1/0/1", "1/far/0", "1/far/1"])
        self.assertEqual((scale.none, scale.unit), ("0/far/0", "1/0/1"))
        self.assertEqual(scale.then("1/0/1", "0/far/1"), "0/far/1")
        self.assertEqual(scale.join("1/far/0", "0/0/1"), "1/0/1")

    def test_just_sixteen_grades_and_more(self):
        for left, right in ((4, 4), (2, 8), (8, 2), (16, 1), (1, 16), (1, 1)):
            self.assertEqual(len(PairScale(ChainScale(left), ChainScale(right)).grades()), left * right)
        for left, right in ((2, 9), (9, 2), (4, 5), (5, 4), (16, 2), (16, 16)):
            self.check_bad(PairScale, ChainScale(left), ChainScale(right))
        self.check_bad(PairScale, StepScale(2), StepScale(1))
        self.check_bad(PairScale, PairScale(ChainScale(4), ChainScale(4)), TurnedScale(ChainScale(2)))


class TurnedTest(FamilyTest):

    def test_products_go_the_other_way_round(self):
        for inner in (StepScale(2), left_only(), PairScale(left_only(), ChainScale(2)), *irregular_scales()):
            scale = TurnedScale(inner)
            self.assertEqual(scale.grades(), inner.grades())
            self.assertEqual((scale.none, scale.unit), (inner.none, inner.unit))
            self.check_pairs(scale, inner.join, lambda a, b, inner=inner: inner.then(b, a))

    def test_a_product_by_hand(self):
        self.assertEqual(StepScale(2).then("0100", "1000"), "0000")
        self.assertEqual(TurnedScale(StepScale(2)).then("0100", "1000"), "0100")

    def test_inner_is_kept(self):
        inner = diamond()
        self.assertIs(TurnedScale(inner).inner, inner)

    def test_under_and_over_change_places(self):
        inner = StepScale(2)
        scale = TurnedScale(inner)
        for a, b in itertools.product(inner.grades(), repeat=2):
            self.assertEqual(scale.under(a, b), inner.over(b, a))
            self.assertEqual(scale.over(b, a), inner.under(a, b))

    def test_sixteen_grades_can_be_turned(self):
        self.assertEqual(len(TurnedScale(ChainScale(16)).grades()), 16)


class AllFamiliesTest(FamilyTest):

    def test_all_are_scales(self):
        for scale in regular_scales() + irregular_scales():
            self.assertIsInstance(scale, Scale)

    def test_all_are_regular(self):
        for count in range(1, 17):
            self.assertIsNone(first_fault(ChainScale(count)))
        for most in range(15):
            self.assertIsNone(first_fault(DistanceScale(most)))
        for scale in regular_scales():
            self.assertIsNone(first_fault(scale), scale.grades())


if __name__ == "__main__":
    unittest.main()
