"""Points 1 and 27: glued spaces."""

import itertools
import unittest

from farscale.changes import ScaleMap, carried
from farscale.errors import BadName, MixedSpaces, NotFitting, Stretched, TwiceTold
from farscale.families import ChainScale, DistanceScale, StepScale
from farscale.gluing import Glued
from farscale.goingon import laid_into, least_way
from farscale.hulls import Hull
from farscale.maps import SpaceMap
from farscale.pairs import closed_pairs, closure, widened
from farscale.quotients import partner
from farscale.searches import all_maps, renaming
from farscale.spaces import Space, part, turned
from farscale.tables import Table, forward
from farscale.told import told_space
from tests.at_hand import (closed_by_rounds, diamond, distances, loops, moves, pair_of_point, regular_scales, sides,
                           single_point, small_scales, some_space, told_again)
from tests.checks import Checks


def line(scale, *places):
    """Points on a line over distances, named by their places."""
    return Space(scale, [f"at{place}" for place in places], [[str(abs(i - j)) for j in places] for i in places])


def along(space, points, other=None):
    """Two maps from the part with these points, to the space and to the other one by the same names."""
    m = SpaceMap.inclusion(space, points)
    return m, SpaceMap(m.source, space if other is None else other, m.images())


class GluedTest(Checks):

    def check_glued(self, m, n):
        """Space, left and right by the words of point 27."""
        scale, left, right = m.source.scale, m.target, n.target
        steps = [("l." + x, "l." + y, left.near(x, y)) for x in left.points() for y in left.points()]
        steps += [("r." + x, "r." + y, right.near(x, y)) for x in right.points() for y in right.points()]
        for a in m.source.points():
            steps += [("l." + m(a), "r." + n(a), scale.unit), ("r." + n(a), "l." + m(a), scale.unit)]
        points = ["l." + x for x in left.points()] + ["r." + y for y in right.points()]
        glued = Glued(m, n)
        self.assertIs(type(glued.space), Space)
        self.assertEqual(glued.space.scale, scale)
        self.assertEqual((glued.space.points(), glued.space.rows()), (points, closed_by_rounds(scale, points, steps)))
        for found, space, sign in ((glued.left, left, "l."), (glued.right, right, "r.")):
            self.check_same(found, SpaceMap(space, glued.space, [sign + point for point in space.points()]))
        for a in m.source.points():
            self.assertTrue(glued.space.alike("l." + m(a), "r." + n(a)))
        if m.keeps() and n.keeps():
            self.assertTrue(glued.left.keeps() and glued.right.keeps())
        return glued


class GluedSpaces(GluedTest):

    def test_by_hand(self):
        scale = DistanceScale(9)
        glued = self.check_glued(*along(line(scale, 0, 2, 5), ["at2"], line(scale, 1, 2)))
        self.assertEqual(glued.space.points(), ["l.at0", "l.at2", "l.at5", "r.at1", "r.at2"])
        self.assertEqual([glued.space.near("l.at0", y) for y in glued.space.points()], ["0", "2", "5", "3", "2"])
        self.assertEqual((glued.left("at5"), glued.right("at1")), ("l.at5", "r.at1"))

    def test_unlike_products(self):
        glued = self.check_glued(*along(part(moves(), ["a", "b"]), ["b"], part(moves(), ["b", "c"])))
        self.assertEqual(glued.space.near("l.a", "r.c"), "0001")
        self.assertEqual(glued.space.near("r.c", "l.a"), "0000")

    def test_all_maps_of_small_spaces(self):
        for scale in regular_scales():
            inner, left, right = (some_space(scale, count, seed) for seed, count in enumerate((2, 2, 3)))
            pairs = list(itertools.product(all_maps(inner, left), all_maps(inner, right)))
            for m, n in pairs[::1 + len(pairs) // 6]:
                self.check_glued(m, n)

    def test_along_parts(self):
        for scale in regular_scales():
            space, other = some_space(scale, 3, seed=2), some_space(scale, 3, seed=5)
            for points in ([], ["p1"], ["p0", "p2"], space.points()):
                self.check_glued(*along(space, points))
                n = SpaceMap.inclusion(other, [])
                self.check_glued(SpaceMap.inclusion(space, []), n)

    def test_the_part_of_no_points(self):
        for scale in regular_scales():
            left, right = some_space(scale, 2, seed=3), some_space(scale, 2, seed=4)
            glued = self.check_glued(SpaceMap.inclusion(left, []), SpaceMap.inclusion(right, []))
            for x, y in itertools.product(left.points(), right.points()):
                self.assertEqual(glued.space.near("l." + x, "r." + y), scale.none)
                self.assertEqual(glued.space.near("r." + y, "l." + x), scale.none)

    def test_no_points_at_all(self):
        for scale in regular_scales():
            empty, one = Space(scale, [], []), single_point(scale)
            self.assertEqual(self.check_glued(SpaceMap.same(empty), SpaceMap.same(empty)).space, empty)
            glued = self.check_glued(SpaceMap(empty, empty, []), SpaceMap(empty, one, []))
            self.assertEqual((glued.space.points(), glued.left.images()), (["r.one"], []))
            glued = self.check_glued(SpaceMap(empty, one, []), SpaceMap(empty, empty, []))
            self.assertEqual(glued.space.points(), ["l.one"])

    def test_the_whole_space(self):
        for space in (distances(), sides(), loops(), moves()):
            glued = self.check_glued(*along(space, space.points()))
            for x, y in itertools.product(space.points(), repeat=2):
                self.assertEqual(glued.space.near("l." + x, "r." + y), space.near(x, y))

    def test_maps_that_lead_points_together(self):
        scale = DistanceScale(9)
        inner, left = line(scale, 0, 6), line(scale, 0, 1, 6)
        m = SpaceMap(inner, left, ["at0", "at6"])
        n = SpaceMap(inner, line(scale, 3), ["at3", "at3"])
        glued = self.check_glued(m, n)
        self.assertEqual(glued.space.near("l.at0", "l.at6"), "0")
        self.assertEqual((glued.left.keeps(), glued.right.keeps()), (False, True))

    def test_going_there_and_back_more_than_once(self):
        scale = DistanceScale(9)
        inner = Space(scale, ["a", "b", "c", "d"], [["0" if x == y else "9" for y in range(4)] for x in range(4)])
        first = Space(scale, ["a", "b", "c", "d"], [["0", "1", "9", "9"], ["9", "0", "9", "9"],
                                                    ["9", "9", "0", "1"], ["9", "9", "9", "0"]])
        second = Space(scale, ["a", "b", "c", "d"], [["0", "9", "9", "9"], ["9", "0", "1", "9"],
                                                     ["9", "9", "0", "9"], ["1", "9", "9", "0"]])
        glued = self.check_glued(SpaceMap(inner, first, inner.points()), SpaceMap(inner, second, inner.points()))
        self.assertEqual((glued.space.near("l.a", "l.d"), glued.space.near("r.d", "l.c")), ("3", "3"))

    def test_points_that_are_alike(self):
        space = Space(ChainScale(3), ["a", "b"], [["2", "2"], ["2", "2"]])
        glued = self.check_glued(*along(space, ["a"]))
        self.assertTrue(glued.space.alike("l.b", "r.b"))

    def test_a_scale_told_again(self):
        inner = Space(told_again(DistanceScale(9)), ["at2"], [["0"]])
        glued = self.check_glued(SpaceMap(inner, line(DistanceScale(9), 1, 2), ["at2"]),
                                 SpaceMap(line(DistanceScale(9), 2), line(DistanceScale(9), 2, 7), ["at2"]))
        self.assertEqual(glued.space.near("l.at1", "r.at7"), "6")

    def test_eighty_points(self):
        space = some_space(DistanceScale(14), 40, seed=1)
        glued = Glued(*along(space, ["p0", "p39"]))
        self.assertEqual(len(glued.space), 80)
        self.assertTrue(glued.left.keeps() and glued.right.keeps())

    def test_mixed_spaces(self):
        scale = DistanceScale(9)
        target = line(scale, 0, 2, 5)
        m = SpaceMap(line(scale, 0, 2), target, ["at0", "at2"])
        for source in (line(scale, 2, 0), line(scale, 0), line(scale, 0, 3), line(scale), target,
                       line(DistanceScale(8), 0, 2), single_point(ChainScale(2))):
            other = SpaceMap.same(source)
            self.check_raises(MixedSpaces, {}, Glued, m, other)
            self.check_raises(MixedSpaces, {}, Glued, other, m)
        self.check_raises(MixedSpaces, {}, Glued, SpaceMap.same(line(scale)),
                          SpaceMap.same(Space(ChainScale(2), [], [])))

    def test_the_arguments_are_left_alone(self):
        m, n = along(distances(), ["b"])
        glued = Glued(m, n)
        glued.space.points().clear()
        glued.left.images().clear()
        again = Glued(m, n)
        self.assertEqual((glued.space, glued.left, glued.right), (again.space, again.left, again.right))
        self.assertEqual((m, n), along(distances(), ["b"]))


class Fits(GluedTest):

    def test_looked_up_among_all_maps(self):
        fitting = unfitting = 0
        for scale in small_scales():
            inner, left, right, last = (some_space(scale, count, seed) for seed, count in enumerate((1, 2, 2, 2)))
            pairs = list(itertools.product(all_maps(inner, left), all_maps(inner, right)))
            for m, n in pairs[::1 + len(pairs) // 3]:
                glued = Glued(m, n)
                ways = all_maps(glued.space, last)
                for p, q in itertools.product(all_maps(left, last), all_maps(right, last)):
                    right_ways = [k for k in ways if glued.left >> k == p and glued.right >> k == q]
                    if m >> p == n >> q:
                        self.assertEqual(len(right_ways), 1)
                        self.check_same(glued.fit(p, q), right_ways[0])
                        fitting += 1
                    else:
                        # There may be such a map all the same, where images at the joint are alike.
                        self.check_raises(NotFitting, {}, glued.fit, p, q)
                        unfitting += 1
        self.assertGreater(fitting, 30)
        self.assertGreater(unfitting, 20)

    def test_many_grades(self):
        for scale in regular_scales():
            inner, left, right, last = (some_space(scale, count, seed) for seed, count in enumerate((1, 2, 2, 2)))
            for m, n in list(itertools.product(all_maps(inner, left), all_maps(inner, right)))[:1]:
                glued = Glued(m, n)
                for p, q in itertools.product(all_maps(left, last), all_maps(right, last)):
                    if m >> p == n >> q:
                        k = glued.fit(p, q)
                        self.check_same(k, SpaceMap(glued.space, last, p.images() + q.images()))
                    else:
                        self.check_raises(NotFitting, {}, glued.fit, p, q)

    def test_left_and_right_fit(self):
        for m, n in (along(distances(), ["b"]), along(sides(), []), along(moves(), ["a", "c"])):
            glued = Glued(m, n)
            both = glued.left, SpaceMap(n.target, glued.space, glued.left.images())
            self.assertEqual(glued.fit(*both).images(), glued.left.images() * 2)
            fold = glued.fit(SpaceMap.same(m.target), SpaceMap.same(n.target))
            self.check_same(glued.left >> fold, SpaceMap.same(m.target))
            self.check_same(glued.right >> fold, SpaceMap.same(n.target))

    def test_left_and_right_meet_in_alike_points_only(self):
        # l.b and r.b are alike, but they are two points: the maps do not fit.
        m, n = along(distances(), ["b"])
        glued = Glued(m, n)
        self.check_raises(NotFitting, {}, glued.fit, glued.left, glued.right)

    def test_no_points(self):
        empty, one = Space(diamond(), [], []), single_point(diamond())
        glued = Glued(SpaceMap.same(empty), SpaceMap.same(empty))
        self.assertEqual(glued.fit(SpaceMap(empty, one, []), SpaceMap(empty, one, [])), SpaceMap(empty, one, []))

    def test_other_sources_and_targets(self):
        scale = DistanceScale(9)
        m, n = along(line(scale, 0, 2, 5), ["at2"], line(scale, 1, 2))
        glued, one = Glued(m, n), single_point(scale)

        def to_one(space):
            return SpaceMap(space, one, ["one"] * len(space))

        p, q = to_one(m.target), to_one(n.target)
        self.assertEqual(glued.fit(p, q).images(), ["one"] * 5)
        for space in (line(scale, 0, 2, 6), line(scale, 0, 5, 2), n.target, line(scale), glued.space, one):
            self.check_raises(NotFitting, {}, glued.fit, to_one(space), q)
        for space in (line(scale, 1, 3), line(scale, 2, 1), m.target, line(scale), glued.space, one):
            self.check_raises(NotFitting, {}, glued.fit, p, to_one(space))
        self.check_raises(NotFitting, {}, glued.fit, q, p)
        other = Space(scale, ["one", "two"], [["0", "9"], ["9", "0"]])
        self.check_raises(NotFitting, {}, glued.fit, p, SpaceMap(n.target, other, ["one"] * 2))
        self.check_raises(NotFitting, {}, glued.fit, SpaceMap(m.target, other, ["one"] * 3), q)
        self.check_raises(NotFitting, {}, glued.fit, SpaceMap.same(sides()), SpaceMap.same(sides()))

    def test_targets_over_another_scale(self):
        empty = Space(ChainScale(2), [], [])
        glued = Glued(SpaceMap.same(empty), SpaceMap.same(empty))
        for target in (ChainScale(3), DistanceScale(0)):
            other = Space(target, [], [])
            self.check_raises(NotFitting, {}, glued.fit, SpaceMap.same(empty), SpaceMap.same(other))
            self.check_raises(NotFitting, {}, glued.fit, SpaceMap.same(other), SpaceMap.same(other))

    def test_images_that_are_alike_do_not_do(self):
        scale = ChainScale(2)
        m, n = along(single_point(scale), ["one"])
        last = Space(scale, ["a", "b"], [["1", "1"], ["1", "1"]])
        glued = Glued(m, n)
        first, second = SpaceMap(m.target, last, ["a"]), SpaceMap(n.target, last, ["b"])
        self.assertIn(["a", "b"], [k.images() for k in all_maps(glued.space, last)])
        self.check_raises(NotFitting, {}, glued.fit, first, second)
        self.assertEqual(glued.fit(first, first).images(), ["a", "a"])

    def test_images_of_the_joint_that_are_apart(self):
        scale = DistanceScale(9)
        m, n = along(line(scale, 0, 2), ["at2"])
        glued = Glued(m, n)
        self.check_raises(NotFitting, {}, glued.fit, SpaceMap.same(m.target),
                          SpaceMap(n.target, m.target, ["at0", "at0"]))

    def test_the_arguments_are_left_alone(self):
        m, n = along(distances(), ["b"])
        p, q = SpaceMap.same(m.target), SpaceMap.same(n.target)
        glued = Glued(m, n)
        glued.fit(p, q).images().clear()
        self.assertEqual((p, q), (SpaceMap.same(distances()), SpaceMap.same(distances())))
        self.assertEqual(glued.fit(p, q).images(), ["a", "b", "c"] * 2)


class FurtherSigns(GluedTest):

    def glued(self):
        return Glued(*along(line(DistanceScale(3), 0, 2), ["at2"])).space

    def test_glued_once_more(self):
        for scale in regular_scales():
            first = Glued(*along(some_space(scale, 2), ["p1"]))
            second = self.check_glued(*along(first.space, ["l.p0", "r.p0"]))
            self.assertEqual(second.space.points()[:2], ["l.l.p0", "l.l.p1"])
            third = self.check_glued(first.left, first.right)
            self.assertEqual(len(third.space), 8)

    def test_parts_maps_and_searches(self):
        space = self.glued()
        self.assertEqual(part(space, ["r.at0", "l.at0"]).points(), ["l.at0", "r.at0"])
        self.assertEqual(turned(space).points(), space.points())
        self.assertEqual(SpaceMap.same(space)("r.at2"), "r.at2")
        self.assertTrue(renaming(space, turned(space)).keeps())
        self.assertGreater(len(all_maps(part(space, ["l.at0"]), space)), 3)

    def test_tables_and_hulls(self):
        space = self.glued()
        self.check_same(partner(Table.own(space)), Table.own(space))
        self.assertEqual(forward(SpaceMap.inclusion(space, ["l.at0"])).at("l.at0", "r.at0"), "far")
        self.assertEqual(closure(space, ["far", "far", "0", "far"]), pair_of_point(space, "r.at0"))
        hull = Hull(space)
        self.assertEqual(len(hull.space), len(closed_pairs(space)))
        self.assertEqual(hull.into("l.at2"), hull.into("r.at2"))
        self.assertEqual(laid_into(hull, hull.into), SpaceMap.same(hull.space))
        m = SpaceMap(part(space, []), hull.space, [])
        self.assertEqual(least_way(hull, m, space).source, space)

    def test_changes_of_scale(self):
        m = ScaleMap(DistanceScale(3), ChainScale(2), ["1", "1", "1", "1", "0"])
        self.assertFalse(m.loose())
        m = ScaleMap(DistanceScale(3), ChainScale(2), ["1", "0", "0", "0", "0"])
        self.assertEqual(carried(m, self.glued()).points(), self.glued().points())

    def test_callers_cannot_tell_such_names(self):
        space = self.glued()
        self.check_raises(BadName, {"name": "l.at0"}, Space, space.scale, space.points(), space.rows())
        self.check_raises(BadName, {"name": "l.at0"}, told_space, space.scale, space.points(), [])
        column, row = pair_of_point(space, "l.at0")
        self.check_raises(BadName, {"name": "l.x"}, widened, space, "l.x", column, row)
        wider = widened(space, "at0", column, row)
        self.assertTrue(wider.alike("at0", "l.at0"))
        self.check_raises(TwiceTold, {"name": "at0"}, widened, wider, "at0", column, row)

    def test_errors_tell_them(self):
        space = self.glued()
        self.check_raises(Stretched, {"x": "l.at0", "y": "l.at2"}, SpaceMap, space, space,
                          ["l.at0", "r.at0", "r.at0", "l.at0"])


if __name__ == "__main__":
    unittest.main()
