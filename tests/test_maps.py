"""Points 1 and 12: maps from one space to another one."""

import copy
import itertools
import unittest

from farscale.errors import BadImages, MixedScales, MixedSpaces, Stretched, UnknownPoint
from farscale.families import ChainScale, DistanceScale, PairScale, StepScale, TurnedScale
from farscale.maps import SpaceMap, made_map
from farscale.spaces import Space, made_space, part, turned
from tests.at_hand import (beyond_unit, diamond, distances, growing, loops, moves, named, regular_scales, sides,
                           single_point, some_space, told_again)
from tests.checks import Checks


def fits(source, target, images):
    """True if the images make a map, by the words of the document."""
    leads = dict(zip(source.points(), images))
    scale = source.scale
    return all(scale.join(source.near(x, y), target.near(leads[x], leads[y])) == target.near(leads[x], leads[y])
               for x in source.points() for y in source.points())


def line(*places):
    """Points on a line, as far from each other as they are, at most 9."""
    rows = [[str(abs(i - j)) for j in places] for i in places]
    return Space(DistanceScale(9), [f"at{place}" for place in places], rows)


class OrdinaryMaps(Checks):

    def test_images(self):
        source, target = line(0, 4, 9), line(0, 1, 2, 3)
        m = SpaceMap(source, target, ["at3", "at1", "at1"])
        self.assertEqual(m.images(), ["at3", "at1", "at1"])
        self.assertEqual([m("at0"), m("at4"), m("at9")], ["at3", "at1", "at1"])
        self.assertIs(m.source, source)
        self.assertIs(m.target, target)

    def test_a_call_with_what_is_no_point_of_the_source(self):
        m = SpaceMap(line(0, 4), line(0, 1), ["at0", "at1"])
        for name in ("at1", "x", ""):
            self.check_raises(UnknownPoint, {"name": name}, m, name)
        self.check_raises(UnknownPoint, {"name": "a"}, SpaceMap(line(), line(), []), "a")

    def test_all_lists_of_images(self):
        for scale in regular_scales():
            source, target = some_space(scale, 2, seed=1), some_space(scale, 3, seed=2)
            for images in itertools.product(target.points(), repeat=2):
                if fits(source, target, images):
                    self.assertEqual(SpaceMap(source, target, list(images)).images(), list(images))
                else:
                    with self.assertRaises(Stretched):
                        SpaceMap(source, target, list(images))

    def test_nearer_images_are_right_in_every_scale(self):
        self.assertFalse(fits(line(0, 1), line(0, 2), ["at0", "at2"]))
        self.assertTrue(fits(line(0, 2), line(0, 1), ["at0", "at1"]))
        SpaceMap(Space(diamond(), ["a", "b"], [["both", "east"], ["no", "both"]]), sides(), ["a", "b"])
        SpaceMap(Space(beyond_unit(), ["a"], [["one"]]), loops(), ["a"])

    def test_to_one_point(self):
        for scale in regular_scales():
            source = Space(scale, ["a", "b"], [[scale.unit, scale.none], [scale.unit, scale.unit]])
            self.assertEqual(SpaceMap(source, single_point(scale), ["one", "one"]).images(), ["one", "one"])

    def test_the_empty_map(self):
        for scale in regular_scales():
            empty = Space(scale, [], [])
            for target in (empty, single_point(scale), some_space(scale, 3)):
                m = SpaceMap(empty, target, [])
                self.assertEqual((m.images(), m.keeps()), ([], True))
                self.check_same(m, SpaceMap.inclusion(target, []))
                self.check_same(SpaceMap.same(empty) >> m, m)

    def test_a_scale_told_again(self):
        space = line(0, 1)
        again = Space(told_again(DistanceScale(9)), space.points(), space.rows())
        self.check_same(SpaceMap(space, again, space.points()), SpaceMap.same(space))

    def test_points_with_further_names(self):
        space = made_space(ChainScale(2), ["l.a", "r.a"], [["1", "1"], ["0", "1"]])
        m = SpaceMap(space, space, ["l.a", "l.a"])
        self.assertEqual((m("r.a"), m.keeps()), ("l.a", False))
        self.assertEqual(SpaceMap.inclusion(space, ["r.a"]).images(), ["r.a"])
        self.check_raises(UnknownPoint, {"name": "a"}, m, "a")


class WrongMaps(Checks):

    def test_mixed_scales(self):
        self.check_raises(MixedScales, {}, SpaceMap, single_point(ChainScale(2)), single_point(ChainScale(3)), ["one"])
        self.check_raises(MixedScales, {}, SpaceMap, moves(), turned(moves()), ["c", "b", "a"])
        # Too long, no point of the target, and stretched as well.
        source, target = line(0, 1), Space(DistanceScale(8), ["a", "b"], [["0", "8"], ["8", "0"]])
        for images in (["a"], ["x", "y"], ["a", "b"], []):
            self.check_raises(MixedScales, {}, SpaceMap, source, target, images)
        self.check_raises(MixedScales, {}, SpaceMap, Space(ChainScale(2), [], []), Space(ChainScale(3), [], []), [])

    def test_too_few_or_many_images(self):
        source, target = line(0, 1), line(0, 9)
        for images in ([], ["at0"], ["at0"] * 3, ["x"], ["x", "y", "z"], ["at0", "at9", "at9"]):
            self.check_raises(BadImages, {}, SpaceMap, source, target, images)
        self.check_raises(BadImages, {}, SpaceMap, line(), target, ["at0"])

    def test_images_that_are_no_points(self):
        source, target = line(0, 1, 2), line(0, 9)
        self.check_raises(UnknownPoint, {"name": "x"}, SpaceMap, source, target, ["x", "y", "z"])
        self.check_raises(UnknownPoint, {"name": "y"}, SpaceMap, source, target, ["at0", "y", "z"])
        # The first two images are stretched.
        self.check_raises(UnknownPoint, {"name": "z"}, SpaceMap, source, target, ["at0", "at9", "z"])
        self.check_raises(UnknownPoint, {"name": "at1"}, SpaceMap, source, target, ["at0", "at0", "at1"])
        self.check_raises(UnknownPoint, {"name": "a"}, SpaceMap, single_point(ChainScale(2)),
                          Space(ChainScale(2), [], []), ["a"])

    def test_stretched(self):
        self.check_raises(Stretched, {"x": "at0", "y": "at1"}, SpaceMap, line(0, 1), line(0, 2), ["at0", "at2"])
        self.check_raises(Stretched, {"x": "at1", "y": "at2"}, SpaceMap, line(0, 1, 2), line(0, 1, 2),
                          ["at1", "at0", "at2"])
        self.check_raises(Stretched, {"x": "b", "y": "a"}, SpaceMap, turned(distances()), turned(distances()),
                          ["b", "a", "a"])

    def test_a_point_may_be_stretched_alone(self):
        self.check_raises(Stretched, {"x": "a", "y": "a"}, SpaceMap, loops(), loops(), ["b", "b"])
        self.check_raises(Stretched, {"x": "b", "y": "b"}, SpaceMap,
                          Space(growing(3), ["a", "b"], [["0", "no"], ["no", "3"]]),
                          Space(growing(3), ["z"], [["0"]]), ["z", "z"])

    def test_the_first_two_points(self):
        for scale in regular_scales():
            source, target = some_space(scale, 3, seed=1), some_space(scale, 3, seed=2)
            for images in itertools.product(target.points(), repeat=3):
                leads = dict(zip(source.points(), images))
                wrong = [(x, y) for x, y in itertools.product(source.points(), repeat=2)
                         if not scale.within(source.near(x, y), target.near(leads[x], leads[y]))]
                if wrong:
                    told = {"x": wrong[0][0], "y": wrong[0][1]}
                    self.check_raises(Stretched, told, SpaceMap, source, target, list(images))


class MapsBehindMaps(Checks):

    def test_first_the_one_then_the_other(self):
        a, b, c = line(0, 9), line(0, 4, 8), line(2, 3)
        m, n = SpaceMap(a, b, ["at8", "at4"]), SpaceMap(b, c, ["at3", "at2", "at3"])
        both = m >> n
        self.assertEqual(both.images(), ["at3", "at2"])
        self.assertEqual((both.source, both.target), (a, c))
        for point in a.points():
            self.assertEqual(both(point), n(m(point)))

    def test_all_maps_of_small_spaces(self):
        for scale in (StepScale(2), diamond(), beyond_unit(), DistanceScale(3), TurnedScale(StepScale(2))):
            a, b, c = (some_space(scale, 2, seed) for seed in (1, 2, 3))
            ms = [SpaceMap(a, b, list(i)) for i in itertools.product(b.points(), repeat=2) if fits(a, b, i)]
            ns = [SpaceMap(b, c, list(i)) for i in itertools.product(c.points(), repeat=2) if fits(b, c, i)]
            for m, n in itertools.product(ms, ns):
                self.check_same(m >> n, SpaceMap(a, c, [n(m(x)) for x in a.points()]))
                self.check_same((m >> n) >> SpaceMap.same(c), m >> (n >> SpaceMap.same(c)))
            for m in ms:
                self.check_same(SpaceMap.same(a) >> m, m)
                self.check_same(m >> SpaceMap.same(b), m)

    def test_spaces_made_apart(self):
        m, n = SpaceMap(line(0, 9), line(0, 4), ["at0", "at4"]), SpaceMap(line(0, 4), line(7), ["at7", "at7"])
        self.assertEqual((m >> n).images(), ["at7", "at7"])

    def test_the_maps_are_left_alone(self):
        m, n = SpaceMap(line(0, 9), line(0, 4), ["at0", "at4"]), SpaceMap(line(0, 4), line(7), ["at7", "at7"])
        _ = m >> n
        self.assertEqual((m.images(), n.images()), (["at0", "at4"], ["at7", "at7"]))

    def test_mixed_spaces(self):
        m = SpaceMap(line(0, 9), line(0, 4), ["at0", "at4"])

        def apply(first, second):
            return first >> second

        for source in (line(0, 9), line(4, 0), line(0), line(0, 4, 5), line(), single_point(ChainScale(2))):
            other = SpaceMap(source, single_point(source.scale), ["one"] * len(source))
            self.check_raises(MixedSpaces, {}, apply, m, other)
        # The same points, but other grades or another scale.
        nearer = Space(DistanceScale(9), ["at0", "at4"], [["0", "3"], ["4", "0"]])
        smaller = Space(DistanceScale(8), ["at0", "at4"], line(0, 4).rows())
        for source in (nearer, smaller):
            self.check_raises(MixedSpaces, {}, apply, m, SpaceMap.same(source))
        self.check_raises(MixedSpaces, {}, apply, m, m)
        self.check_raises(MixedSpaces, {}, apply, SpaceMap(line(), line(0), []), SpaceMap.same(line()))


class KeptGrades(Checks):

    def test_by_hand(self):
        self.assertIs(SpaceMap(line(0, 2), line(5, 6, 7), ["at7", "at5"]).keeps(), True)
        self.assertIs(SpaceMap(line(0, 2), line(5, 6, 7), ["at7", "at6"]).keeps(), False)
        self.assertIs(SpaceMap(line(0, 2), line(5, 6, 7), ["at7", "at7"]).keeps(), False)
        self.assertIs(SpaceMap.same(line(0, 2)).keeps(), True)

    def test_each_pair_counts_both_ways(self):
        target = Space(DistanceScale(5), ["a", "b"], [["0", "1"], ["2", "0"]])
        source = Space(DistanceScale(5), ["a", "b"], [["0", "1"], ["3", "0"]])
        self.assertIs(SpaceMap(source, target, ["a", "b"]).keeps(), False)
        source = Space(DistanceScale(5), ["a", "b"], [["0", "3"], ["2", "0"]])
        self.assertIs(SpaceMap(source, target, ["a", "b"]).keeps(), False)

    def test_a_point_alone_counts(self):
        self.assertIs(SpaceMap(single_point(beyond_unit()), loops(), ["a"]).keeps(), False)
        self.assertIs(SpaceMap(single_point(beyond_unit()), loops(), ["b"]).keeps(), True)

    def test_alike_points_may_have_one_image(self):
        source = Space(ChainScale(3), ["a", "b"], [["2", "2"], ["2", "2"]])
        self.assertIs(SpaceMap(source, single_point(ChainScale(3)), ["one", "one"]).keeps(), True)

    def test_by_its_words(self):
        for scale in regular_scales():
            source, target = some_space(scale, 2, seed=4), some_space(scale, 3, seed=5)
            for images in itertools.product(target.points(), repeat=2):
                if fits(source, target, images):
                    pairs = list(zip(source.points(), images))
                    kept = all(source.near(x, y) == target.near(p, q) for x, p in pairs for y, q in pairs)
                    self.assertIs(SpaceMap(source, target, list(images)).keeps(), kept)


class SameAndInclusion(Checks):

    def test_same(self):
        for scale in regular_scales():
            for count in (0, 1, 3):
                space = some_space(scale, count)
                m = SpaceMap.same(space)
                self.assertIs(type(m), SpaceMap)
                self.check_same(m, SpaceMap(space, space, space.points()))
                self.assertEqual((m.source, m.target, m.images()), (space, space, space.points()))

    def test_inclusion(self):
        for scale in regular_scales():
            space = some_space(scale, 4, seed=7)
            for told in ([], ["p2"], ["p3", "p0"], ["p1", "p3", "p1"], space.points()):
                m = SpaceMap.inclusion(space, told)
                self.assertIs(type(m), SpaceMap)
                self.assertEqual((m.source, m.target), (part(space, told), space))
                self.assertEqual(m.images(), m.source.points())
                self.assertIs(m.keeps(), True)
            self.check_same(SpaceMap.inclusion(space, space.points()), SpaceMap.same(space))

    def test_points_in_another_order(self):
        m = SpaceMap.inclusion(distances(), ["c", "a", "c"])
        self.assertEqual(m.images(), ["a", "c"])
        self.assertEqual((m("a"), m("c")), ("a", "c"))

    def test_the_first_entry_that_is_no_point(self):
        self.check_raises(UnknownPoint, {"name": "x"}, SpaceMap.inclusion, distances(), ["a", "x", "y"])
        self.check_raises(UnknownPoint, {"name": "y"}, SpaceMap.inclusion, distances(), ["y", "x", "a"])

    def test_forty_points(self):
        space = some_space(PairScale(ChainScale(2), DistanceScale(4)), 40)
        self.assertEqual(SpaceMap.same(space).images(), named(40))
        self.check_same(SpaceMap.inclusion(space, named(40)[::-1]), SpaceMap.same(space))


class SameMaps(Checks):

    def test_one_thing_that_differs(self):
        m = SpaceMap(line(0, 2), line(0, 1), ["at0", "at1"])
        self.check_same(m, SpaceMap(line(0, 2), line(0, 1), ["at0", "at1"]))
        self.check_other(m, SpaceMap(line(0, 2), line(0, 1), ["at1", "at0"]))
        self.check_other(m, SpaceMap(line(0, 3), line(0, 1), ["at0", "at1"]))
        self.check_other(m, SpaceMap(line(0, 2), line(0, 1, 2), ["at0", "at1"]))
        self.check_other(m, SpaceMap(line(0, 2), line(1, 0), ["at0", "at1"]))
        self.check_other(SpaceMap(line(), line(0), []), SpaceMap(line(), line(), []))

    def test_the_same_points_in_another_order(self):
        first = SpaceMap(line(0, 2), line(0, 2), ["at0", "at2"])
        second = SpaceMap(line(2, 0), line(0, 2), ["at2", "at0"])
        self.assertEqual([first(x) for x in ("at0", "at2")], [second(x) for x in ("at0", "at2")])
        self.check_other(first, second)

    def test_what_is_no_map(self):
        m = SpaceMap(line(0, 2), line(0, 1), ["at0", "at1"])
        for thing in (None, 0, "", [], m.images(), {}, object(), SpaceMap, m.source, m.target, m.images):
            self.check_other(m, thing)
        self.check_other(SpaceMap.same(line()), None)

    def test_maps_that_are_not_looked_at_again(self):
        images = ["at0", "at1"]
        found = made_map(line(0, 2), line(0, 1), images)
        self.assertIs(type(found), SpaceMap)
        self.check_same(found, SpaceMap(line(0, 2), line(0, 1), ["at0", "at1"]))
        images[0] = "at1"
        self.assertEqual((found.images(), found("at0")), (["at0", "at1"], "at0"))


class ListsOfTheCaller(Checks):

    def test_what_is_handed_in_is_left_alone(self):
        images, points = ["at0", "at1"], ["at2", "at0"]
        told = copy.deepcopy((images, points))
        SpaceMap(line(0, 2), line(0, 1), images)
        SpaceMap.inclusion(line(0, 2), points)
        self.assertEqual((images, points), told)

    def test_changes_afterwards(self):
        images = ["at0", "at1"]
        m = SpaceMap(line(0, 2), line(0, 1), images)
        images[0] = "at1"
        images.append("at0")
        self.assertEqual((m.images(), m("at0")), (["at0", "at1"], "at0"))
        told = m.images()
        told[0] = "at1"
        told.pop()
        self.assertEqual((m.images(), m("at0")), (["at0", "at1"], "at0"))
        same = SpaceMap.same(line(0, 2))
        same.images().reverse()
        same.source.points().reverse()
        self.assertEqual(same.images(), ["at0", "at2"])


if __name__ == "__main__":
    unittest.main()
