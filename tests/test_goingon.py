"""Points 1 and 21 to 23: ways into a hull, spaces that go on, and hulls laid into them."""

import itertools
import unittest

from farscale.errors import BarePair, MixedSpaces, NotKept, TooMany
from farscale.families import ChainScale, DistanceScale, StepScale
from farscale.goingon import greatest_way, laid_into, least_way
from farscale.hulls import Hull
from farscale.maps import SpaceMap
from farscale.pairs import bare_pair, widened
from farscale.searches import all_maps
from farscale.spaces import Space, made_space, part
from tests.at_hand import (alike_points, crowns, diamond, distances, further_names, loops, moves, named, regular_scales,
                           sides, single, single_point, small_scales, some_space)
from tests.checks import Checks


def apart(*points):
    """Points over a chain of two grades with nothing between them."""
    return Space(ChainScale(2), list(points), [["1" if x == y else "0" for y in points] for x in points])


def in_reach(count):
    """A row of points over a chain of two grades, each within reach of all behind it; it goes on."""
    return Space(ChainScale(2), named(count), [["1" if i <= k else "0" for k in range(count)] for i in range(count)])


def two_away(most):
    """Two points over distances, as far apart as may be."""
    return Space(DistanceScale(most), ["a", "b"], [["0", str(most)], [str(most), "0"]])


def doubled(space):
    """The space with its first point once more, alike to it."""
    points = space.points()
    first = points[0]
    rows = [[*row, space.near(x, first)] for x, row in zip(points, space.rows())]
    rows.append([space.near(first, y) for y in points] + [space.near(first, first)])
    return made_space(space.scale, [*points, "again"], rows)


class WayTest(Checks):

    def check_ways(self, hull, m, space, ways=None):
        """The least and the greatest way among all maps that have m's images on its source."""
        inner = SpaceMap.inclusion(space, m.source.points())
        ways = all_maps(space, hull.space) if ways is None else ways
        right = [way for way in ways if inner >> way == m]
        unit, within, near = space.scale.unit, space.scale.within, hull.space.near
        found = least_way(hull, m, space), greatest_way(hull, m, space)
        for way in found:
            self.assertIs(type(way), SpaceMap)
            self.assertIn(way, right)
        least, greatest = found
        for way in right:
            for b in space.points():
                self.assertTrue(within(unit, near(least(b), way(b))))
                self.assertTrue(within(unit, near(way(b), greatest(b))))
        return least.images(), greatest.images()


class Ways(WayTest):

    def test_looked_up_among_all_maps(self):
        tried, unlike = 0, 0
        for scale in small_scales():
            for many, count, seed in itertools.product((0, 1, 2), (0, 1, 2, 3), (1, 2)):
                hull, space = Hull(some_space(scale, many, seed)), some_space(scale, count, seed + 10)
                if len(hull.space) ** count > 800:
                    continue
                ways = all_maps(space, hull.space)
                for points in itertools.chain.from_iterable(itertools.combinations(space.points(), size)
                                                            for size in range(count + 1)):
                    for m in all_maps(part(space, list(points)), hull.space)[::7]:
                        least, greatest = self.check_ways(hull, m, space, ways)
                        tried, unlike = tried + 1, unlike + (least != greatest)
        self.assertGreater(tried, 500)
        self.assertGreater(unlike, 100)

    def test_unlike_products(self):
        hull = Hull(single_point(StepScale(2)))
        space = part(moves(), ["a", "b"])
        ways = all_maps(space, hull.space)
        for point in space.points():
            for m in all_maps(part(space, [point]), hull.space):
                self.check_ways(hull, m, space, ways)
        for scale in regular_scales():
            hull, space = Hull(single_point(scale)), some_space(scale, 2, seed=3)
            for point in [[], ["p0"], ["p1"]]:
                for m in all_maps(part(space, point), hull.space)[:5]:
                    self.check_ways(hull, m, space)

    def test_by_hand(self):
        hull = Hull(two_away(4))
        # A point b at 1 from a, and at 3 from c: it has to stand somewhere near a's image.
        space = Space(DistanceScale(4), ["a", "b"], [["0", "1"], ["1", "0"]])
        m = SpaceMap(part(space, ["a"]), hull.space, [hull.into("a")])
        least, greatest = least_way(hull, m, space), greatest_way(hull, m, space)
        self.assertEqual(hull.pair_of(least("b")), (("1", "4"), ("0", "3")))
        self.assertEqual(hull.pair_of(greatest("b")), (("0", "3"), ("1", "4")))
        self.assertEqual((least("a"), greatest("a")), (hull.into("a"), hull.into("a")))

    def test_the_whole_space(self):
        for space in (sides(), loops(), alike_points(), distances()):
            hull = Hull(part(space, space.points()[:2]))
            for m in all_maps(part(space, space.points()[:2]), hull.space)[:20]:
                self.assertEqual(least_way(hull, m, m.source), m)
                self.assertEqual(greatest_way(hull, m, m.source), m)

    def test_the_part_of_no_points(self):
        for scale in regular_scales():
            for base in (Space(scale, [], []), single_point(scale)):
                hull, space = Hull(base), some_space(scale, 2, seed=5)
                m = SpaceMap(Space(scale, [], []), hull.space, [])
                self.check_ways(hull, m, space)
                self.check_ways(hull, m, m.source)
        hull = Hull(apart("a", "b"))
        m = SpaceMap(apart(), hull.space, [])
        self.assertEqual(least_way(hull, m, apart("x", "y")).images(), ["p0", "p0"])
        self.assertEqual(greatest_way(hull, m, apart("x", "y")).images(), ["p3", "p3"])

    def test_points_that_are_alike(self):
        hull, space = Hull(part(alike_points(), ["a", "b"])), alike_points()
        for point in space.points():
            for m in all_maps(part(space, [point]), hull.space):
                self.check_ways(hull, m, space)
                if point in ("a", "c"):
                    self.assertEqual(least_way(hull, m, space)("a"), least_way(hull, m, space)("c"))

    def test_points_with_further_names(self):
        space = further_names()
        hull = Hull(space)
        for m in all_maps(part(space, ["r.a"]), hull.space):
            self.check_ways(hull, m, space)

    def test_hulls_go_on_to_their_own_hull(self):
        hull = Hull(sides())
        outer = Hull(hull.space)
        m = SpaceMap(part(outer.space, []), hull.space, [])
        self.assertEqual(len(set(least_way(hull, m, outer.space).images())), 1)
        # The base, laid into the hull of a wider space: the hull itself is a space like others.
        m = SpaceMap.inclusion(hull.space, hull.into.images())
        self.assertEqual(least_way(hull, m, hull.space), SpaceMap.same(hull.space))
        self.assertEqual(greatest_way(hull, m, hull.space), SpaceMap.same(hull.space))

    def test_another_hull_of_the_same_space(self):
        first, second = Hull(sides()), Hull(sides())
        m = SpaceMap(part(sides(), ["a"]), second.space, [second.into("a")])
        self.assertEqual(least_way(first, m, sides()), least_way(second, m, sides()))

    def test_forty_points(self):
        hull, space = Hull(crowns(10)), some_space(ChainScale(2), 40)
        m = SpaceMap(part(space, []), hull.space, [])
        self.assertEqual(least_way(hull, m, space).images(), ["p0"] * 40)
        self.assertEqual(greatest_way(hull, m, space).images(), ["p199"] * 40)
        m = SpaceMap.inclusion(hull.space, hull.into.images())
        self.assertEqual(least_way(hull, m, hull.space), SpaceMap.same(hull.space))

    def test_the_arguments_are_left_alone(self):
        hull, space = Hull(apart("a", "b")), apart("x", "y")
        m = SpaceMap(part(space, ["y"]), hull.space, ["p2"])
        for way in (least_way, greatest_way):
            found = way(hull, m, space)
            found.images().clear()
            self.assertEqual(found, way(hull, m, space))
        self.assertEqual((m.images(), space, hull.space), (["p2"], apart("x", "y"), Hull(apart("a", "b")).space))


class WrongWays(WayTest):

    def check_mixed(self, hull, m, space):
        for way in (least_way, greatest_way):
            self.check_raises(MixedSpaces, {}, way, hull, m, space)

    def test_another_target(self):
        hull, space = Hull(apart("a", "b")), apart("x", "y")
        for target in (hull.base, apart("x", "y"), Hull(apart("a")).space, Hull(apart("a", "b", "c")).space,
                       in_reach(4)):
            self.check_mixed(hull, SpaceMap(part(space, ["x"]), target, [target.points()[0]]), space)
            self.check_mixed(hull, SpaceMap(apart(), target, []), space)

    def test_another_source(self):
        hull, space = Hull(two_away(4)), distances()
        near = Space(DistanceScale(4), ["a", "b", "c"], [["0", "1", "2"], ["1", "0", "1"], ["2", "1", "0"]])
        top = hull.space.points()[0]
        for source in (Space(DistanceScale(4), ["b", "a"], [["0", "1"], ["1", "0"]]),
                       Space(DistanceScale(4), ["a", "b"], [["0", "1"], ["2", "0"]]),
                       Space(DistanceScale(4), ["a", "b"], [["0", "2"], ["1", "0"]]),
                       Space(DistanceScale(4), ["a", "d"], [["0", "1"], ["1", "0"]]),
                       Space(DistanceScale(4), ["d"], [["0"]]),
                       Space(DistanceScale(4), ["a", "b", "c", "d"], [["0"] * 4] * 4)):
            self.check_mixed(hull, SpaceMap(source, hull.space, [top] * len(source)), near)
        for points in ([], ["a"], ["a", "c"], ["a", "b", "c"]):
            m = SpaceMap(part(near, points), hull.space, [top] * len(points))
            self.assertEqual(len(least_way(hull, m, near).images()), 3)
            # The space is over another scale, or it has the point, but not beside the others.
            self.check_mixed(hull, m, space)
        self.check_mixed(hull, SpaceMap(near, hull.space, [top] * 3), part(near, ["a", "b"]))

    def test_both_another_target_and_another_source(self):
        hull = Hull(apart("a", "b"))
        self.check_mixed(hull, SpaceMap.same(apart("a", "b")), apart("c"))
        self.check_mixed(hull, SpaceMap.same(distances()), moves())


class GoingOn(Checks):

    def goes_on(self, target, space, points):
        """True if each map from the part with these points goes on to the space."""
        inner = SpaceMap.inclusion(space, points)
        ways = [(inner >> way).images() for way in all_maps(space, target)]
        return all(m.images() in ways for m in all_maps(inner.source, target))

    def test_spaces_without_a_bare_pair_go_on(self):
        tried = 0
        for scale in small_scales():
            for count, seed in itertools.product((0, 1, 2), (1, 2)):
                target = Hull(some_space(scale, count, seed)).space
                for many in (1, 2, 3):
                    space = some_space(scale, many, seed + 7)
                    if len(target) ** many > 600:
                        continue
                    for size in range(many):
                        tried += 1
                        self.assertTrue(self.goes_on(target, space, space.points()[:size]))
        self.assertGreater(tried, 100)

    def test_spaces_with_a_bare_pair_do_not(self):
        for space in (sides(), loops(), apart("a", "b"), two_away(2), single_point(StepScale(2)), apart()):
            pair = bare_pair(space)
            self.assertIsNotNone(pair)
            self.assertFalse(self.goes_on(space, widened(space, "new", *pair), space.points()))
        for space in (in_reach(3), single_point(diamond()), single_point(single())):
            self.assertIsNone(bare_pair(space))
            self.assertTrue(self.goes_on(space, doubled(space), space.points()))


class LaidInto(Checks):

    def check_laid(self, hull, m):
        found = laid_into(hull, m)
        self.assertIs(type(found), SpaceMap)
        self.check_same(found, SpaceMap(hull.space, m.target, found.images()))
        self.assertTrue(found.keeps())
        for x in hull.base.points():
            self.assertTrue(m.target.alike(found(hull.into(x)), m(x)))
        return found

    def test_into_the_hull_itself(self):
        for scale in regular_scales():
            for count in (0, 1, 2):
                try:
                    hull = Hull(some_space(scale, count, seed=3))
                except TooMany:
                    continue
                self.assertEqual(self.check_laid(hull, hull.into), SpaceMap.same(hull.space))

    def test_into_hulls_of_wider_spaces(self):
        tried = 0
        for scale in [*small_scales(), StepScale(2), ChainScale(5)]:
            for count, seed in itertools.product((1, 2, 3, 4), (1, 2, 3)):
                space = some_space(scale, count, seed)
                try:
                    outer = Hull(space)
                except TooMany:
                    continue
                for size in range(count + 1):
                    base = part(space, space.points()[:size])
                    m = SpaceMap.inclusion(space, base.points()) >> outer.into
                    self.check_laid(Hull(base), m)
                    tried += 1
        self.assertGreater(tried, 100)

    def test_into_all_places(self):
        # All maps that keep the grades, not only those that come from a wider space.
        hull, target = Hull(apart("a", "b")), Hull(apart("x", "y", "z")).space
        kept = [m for m in all_maps(hull.base, target) if m.keeps()]
        self.assertEqual(len(kept), 6)
        for m in kept:
            self.check_laid(hull, m)
        hull, target = Hull(two_away(2)), Hull(two_away(4)).space
        hull = Hull(Space(DistanceScale(4), ["a", "b"], [["0", "2"], ["2", "0"]]))
        kept = [m for m in all_maps(hull.base, target) if m.keeps()]
        self.assertGreater(len(kept), 4)
        for m in kept:
            self.check_laid(hull, m)

    def test_targets_with_points_that_are_alike(self):
        for space in (sides(), loops(), two_away(2), apart("a", "b"), alike_points(), further_names()):
            hull = Hull(space)
            target = doubled(hull.space)
            self.assertIsNone(bare_pair(target))
            self.check_laid(hull, SpaceMap(space, target, hull.into.images()))
            for image in ("p0", "again"):
                m = SpaceMap(Space(space.scale, [], []), target, [])
                self.check_laid(Hull(m.source), m)
                inner = part(target, [image])
                self.check_laid(Hull(inner), SpaceMap.inclusion(target, [image]))

    def test_bases_with_points_that_are_alike(self):
        space = alike_points()
        outer = Hull(space)
        self.check_laid(Hull(space), outer.into)

    def test_no_points(self):
        for scale in regular_scales():
            empty, one = Space(scale, [], []), single_point(scale)
            hull = Hull(empty)
            if bare_pair(one) is None:
                self.check_laid(hull, SpaceMap(empty, one, []))
            self.check_laid(hull, SpaceMap(empty, hull.space, []))
            self.check_raises(BarePair, {"column": (), "row": ()}, laid_into, hull, SpaceMap(empty, empty, []))

    def test_in_reach(self):
        hull = Hull(Space(ChainScale(2), ["a", "b"], [["1", "1"], ["0", "1"]]))
        m = SpaceMap(hull.base, in_reach(5), ["p1", "p3"])
        self.assertEqual(self.check_laid(hull, m).images(), ["p1", "p3"])

    def test_two_hundred(self):
        hull = Hull(crowns(10))
        self.assertEqual(self.check_laid(hull, hull.into), SpaceMap.same(hull.space))
        base = part(crowns(10), ["a6x0", "b7x1", "p3"])
        self.check_laid(Hull(base), SpaceMap.inclusion(crowns(10), base.points()) >> hull.into)

    def test_mixed_spaces(self):
        hull = Hull(apart("a", "b"))
        for source in (apart("b", "a"), apart("a"), apart("a", "b", "c"), hull.space, in_reach(2), distances()):
            # It keeps all grades, and its target goes on; or it keeps none, and its target does not.
            self.check_raises(MixedSpaces, {}, laid_into, hull, Hull(source).into)
            one = single_point(source.scale)
            self.check_raises(MixedSpaces, {}, laid_into, hull, SpaceMap(source, one, ["one"] * len(source)))
            self.check_raises(MixedSpaces, {}, laid_into, hull, SpaceMap.same(source))
        m = SpaceMap(part(crowns(11), ["p0"]), crowns(11), ["p1"])
        self.check_raises(MixedSpaces, {}, laid_into, hull, m)

    def test_not_kept(self):
        hull = Hull(apart("a", "b"))
        self.check_raises(NotKept, {}, laid_into, hull, SpaceMap(hull.base, in_reach(2), ["p0", "p1"]))
        # The target has a bare pair, or too many closed pairs, as well.
        self.check_raises(NotKept, {}, laid_into, hull, SpaceMap(hull.base, hull.base, ["a", "a"]))
        self.check_raises(NotKept, {}, laid_into, hull, SpaceMap(hull.base, crowns(11), ["a6x0", "b6x1"]))

    def test_too_many(self):
        hull = Hull(apart("a", "b"))
        self.check_raises(TooMany, {}, laid_into, hull, SpaceMap(hull.base, crowns(11), ["a6x0", "a6x1"]))
        self.check_raises(TooMany, {}, laid_into, Hull(apart()), SpaceMap(apart(), crowns(11), []))

    def test_bare_pairs(self):
        for space in (sides(), loops(), apart("a", "b"), two_away(2), crowns(10)):
            column, row = bare_pair(space)
            told = {"column": column, "row": row}
            self.check_raises(BarePair, told, laid_into, Hull(space), SpaceMap.same(space))
            first = part(space, space.points()[:1])
            self.check_raises(BarePair, told, laid_into, Hull(first), SpaceMap.inclusion(space, first.points()))
        self.assertEqual([type(half) for half in (column, row)], [tuple, tuple])

    def test_the_arguments_are_left_alone(self):
        hull = Hull(apart("a", "b"))
        found = laid_into(hull, hull.into)
        found.images().clear()
        self.assertEqual(found, laid_into(hull, hull.into))
        self.assertEqual(hull.into, Hull(apart("a", "b")).into)


if __name__ == "__main__":
    unittest.main()
