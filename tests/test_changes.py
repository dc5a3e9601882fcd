"""Points 1, 25 and 26: maps of scales, and what they carry along."""

import copy
import itertools
import unittest

from farscale.changes import ScaleMap, carried, carried_map, carried_table
from farscale.errors import BadImages, MixedScales, NotLoose, UnknownGrade
from farscale.families import ChainScale, DistanceScale, PairScale, StepScale, TurnedScale
from farscale.maps import SpaceMap
from farscale.scales import TableScale
from farscale.searches import all_maps
from farscale.spaces import Space
from farscale.tables import Table
from tests.at_hand import (beyond_unit, diamond, distances, further_names, moves, regular_scales, sided, sides, single,
                           single_point, small_scales, some_space, some_table, told_again)
from tests.checks import Checks


def fault_by_words(source, target, images):
    leads = dict(zip(source.grades(), images))
    if leads[source.none] != target.none:
        return ("none", ())
    if leads[source.unit] != target.unit:
        return ("unit", ())
    for word, first, second in (("join", source.join, target.join), ("then", source.then, target.then)):
        for a, b in itertools.product(source.grades(), repeat=2):
            if leads[first(a, b)] != second(leads[a], leads[b]):
                return (word, (a, b))
    return None


def loose_by_words(source, target, images):
    leads = dict(zip(source.grades(), images))
    if not target.within(target.unit, leads[source.unit]):
        return False
    for a, b in itertools.product(source.grades(), repeat=2):
        if source.within(a, b) and not target.within(leads[a], leads[b]):
            return False
        if not target.within(target.then(leads[a], leads[b]), leads[source.then(a, b)]):
            return False
    return True


def scale_maps(source, target, most=300):
    """Maps between two scales, all of them if there are not too many."""
    lists = itertools.product(target.grades(), repeat=len(source.grades()))
    whole = len(target.grades()) ** len(source.grades())
    return [ScaleMap(source, target, list(images)) for images in itertools.islice(lists, 0, None, 1 + whole // most)]


def loose_maps(source, target):
    return [m for m in scale_maps(source, target) if m.loose()]


def images_of(m):
    return [m.image(grade) for grade in m.source.grades()]


def cut(most, least):
    """Distances up to a number, with those above another number as far."""
    target = DistanceScale(least)
    images = [str(k) if k <= least else "far" for k in range(most + 1)] + ["far"]
    return ScaleMap(DistanceScale(most), target, images)


def halves():
    """Distances up to 4 halved and rounded up: two halves may be more than the half of the sum."""
    return ScaleMap(DistanceScale(4), DistanceScale(2), ["0", "1", "1", "2", "2", "far"])


def converse():
    """Each relation on two states to its converse: products turn round."""
    scale = StepScale(2)
    return ScaleMap(scale, TurnedScale(scale), [a[0] + a[2] + a[1] + a[3] for a in scale.grades()])


def all_top(source, target):
    return ScaleMap(source, target, [target.joined(target.grades())] * len(source.grades()))


def then(m, n):
    return m >> n


class MapsOfScales(Checks):

    def test_images(self):
        source, target = DistanceScale(2), ChainScale(3)
        m = ScaleMap(source, target, ["2", "1", "1", "0"])
        self.assertEqual([m.image(grade) for grade in ("0", "1", "2", "far")], ["2", "1", "1", "0"])
        self.assertIs(m.source, source)
        self.assertIs(m.target, target)

    def test_unknown_grades(self):
        m = cut(4, 2)
        for name in ("5", "", "Far", "p0"):
            self.check_raises(UnknownGrade, {"name": name}, m.image, name)
        self.assertEqual(m.image("4"), "far")

    def test_too_few_or_many_images(self):
        source, target = ChainScale(3), ChainScale(2)
        for images in ([], ["0"], ["0", "1"], ["0"] * 4, ["x"], ["x"] * 4, ["0", "1", "1", "x"]):
            self.check_raises(BadImages, {}, ScaleMap, source, target, images)

    def test_images_that_are_no_grades(self):
        source, target = ChainScale(3), ChainScale(2)
        self.check_raises(UnknownGrade, {"name": "x"}, ScaleMap, source, target, ["0", "x", "y"])
        self.check_raises(UnknownGrade, {"name": "y"}, ScaleMap, source, target, ["y", "0", "x"])
        self.check_raises(UnknownGrade, {"name": "2"}, ScaleMap, source, target, ["0", "1", "2"])

    def test_same(self):
        for scale in regular_scales():
            m = ScaleMap.same(scale)
            self.assertIs(type(m), ScaleMap)
            self.assertEqual((m.source, m.target, images_of(m)), (scale, scale, scale.grades()))
            self.check_same(m, ScaleMap(scale, scale, scale.grades()))
            self.assertEqual((m.fault(), m.loose()), (None, True))


class MapsBehindMaps(Checks):

    def test_first_the_one_then_the_other(self):
        m, n = cut(5, 3), ScaleMap(DistanceScale(3), ChainScale(2), ["1", "0", "1", "1", "0"])
        self.assertEqual(images_of(m >> n), ["1", "0", "1", "1", "0", "0", "0"])
        self.assertEqual(((m >> n).source, (m >> n).target), (DistanceScale(5), ChainScale(2)))

    def test_some_maps(self):
        scales = [diamond(), ChainScale(3), DistanceScale(1), StepScale(1)]
        for a, b, c in itertools.product(scales, repeat=3):
            for m, n in itertools.product(scale_maps(a, b, 5), scale_maps(b, c, 5)):
                self.check_same(m >> n, ScaleMap(a, c, [n.image(m.image(grade)) for grade in a.grades()]))
            for m in scale_maps(a, b, 5):
                self.check_same(ScaleMap.same(a) >> m, m)
                self.check_same(m >> ScaleMap.same(b), m)

    def test_scales_made_apart(self):
        m = ScaleMap(ChainScale(2), told_again(DistanceScale(2)), ["far", "0"])
        self.assertEqual(images_of(m >> cut(2, 1)), ["far", "0"])

    def test_mixed_scales(self):
        m = cut(4, 2)
        for scale in (DistanceScale(3), DistanceScale(4), ChainScale(4), diamond()):
            self.check_raises(MixedScales, {}, then, m, ScaleMap.same(scale))
        self.check_raises(MixedScales, {}, then, m, m)
        # The same grades, but other products.
        self.check_raises(MixedScales, {}, then, ScaleMap.same(StepScale(2)),
                          ScaleMap.same(TurnedScale(StepScale(2))))

    def test_loose_behind_loose(self):
        scales = [ChainScale(2), ChainScale(3), DistanceScale(1), beyond_unit(), sided()]
        for a, b, c in itertools.product(scales, repeat=3):
            for m, n in itertools.product(loose_maps(a, b)[:4], loose_maps(b, c)[:4]):
                self.assertIs((m >> n).loose(), True)


class SameMaps(Checks):

    def test_one_thing_that_differs(self):
        m = ScaleMap(ChainScale(2), ChainScale(3), ["0", "2"])
        self.check_same(m, ScaleMap(ChainScale(2), told_again(ChainScale(3)), ["0", "2"]))
        self.check_other(m, ScaleMap(ChainScale(2), ChainScale(3), ["0", "1"]))
        self.check_other(m, ScaleMap(ChainScale(2), ChainScale(4), ["0", "2"]))
        self.check_other(m, ScaleMap(told_again(DistanceScale(0)), ChainScale(3), ["0", "2"]))
        other = TableScale(["0", "1"], [["0", "1"], ["1", "1"]], [["0", "0"], ["0", "0"]], none="0", unit="1")
        self.check_other(m, ScaleMap(other, ChainScale(3), ["0", "2"]))
        self.check_other(ScaleMap.same(StepScale(2)), ScaleMap.same(TurnedScale(StepScale(2))))

    def test_what_is_no_map_of_scales(self):
        m = ScaleMap.same(ChainScale(2))
        for thing in (None, 0, "", [], ["0", "1"], {}, object(), ScaleMap, m.source, m.image,
                      SpaceMap.same(single_point(ChainScale(2))), Table.own(single_point(ChainScale(2)))):
            self.check_other(m, thing)


class Faults(Checks):

    def test_by_words(self):
        words = []
        for source, target in itertools.product(small_scales(), repeat=2):
            for m in scale_maps(source, target):
                expected = fault_by_words(source, target, images_of(m))
                self.assertEqual(m.fault(), expected)
                words.append(expected and expected[0])
        for word in ("none", "unit", "join", "then", None):
            self.assertGreater(words.count(word), 5, word)

    def test_by_hand(self):
        scale = DistanceScale(2)
        for images, expected in ((["0", "1", "2", "2"], ("none", ())), (["far"] * 4, ("unit", ())),
                                 (["1", "0", "2", "far"], ("unit", ())), (["1", "0", "2", "0"], ("none", ())),
                                 (["0", "2", "1", "far"], ("join", ("1", "2"))),
                                 (["0", "1", "1", "far"], ("then", ("1", "1"))),
                                 (["0", "2", "2", "far"], ("then", ("1", "1"))),
                                 (["0", "1", "far", "far"], ("then", ("1", "1"))),
                                 (["0", "2", "far", "far"], None), (["0", "far", "far", "far"], None),
                                 (["0", "1", "2", "far"], None)):
            self.assertEqual(ScaleMap(scale, scale, images).fault(), expected)

    def test_the_first_pair(self):
        # Only products of a and b in this order are not kept.
        scale = sided()
        m = ScaleMap(scale, TurnedScale(scale), scale.grades())
        self.assertEqual(m.fault(), ("then", ("low", "high")))
        m = ScaleMap(StepScale(2), TurnedScale(StepScale(2)), StepScale(2).grades())
        self.assertEqual(m.fault(), fault_by_words(m.source, m.target, images_of(m)))
        self.assertEqual(ScaleMap(diamond(), diamond(), ["both", "east", "east", "no"]).fault(),
                         ("join", ("east", "west")))

    def test_without_a_fault(self):
        for m in (cut(5, 3), cut(14, 0), converse(), ScaleMap(diamond(), diamond(), ["both", "west", "east", "no"]),
                  ScaleMap(ChainScale(2), StepScale(2), ["0000", "1001"]),
                  ScaleMap(DistanceScale(2), DistanceScale(5), ["0", "2", "4", "far"])):
            self.assertIsNone(m.fault())
            self.assertIs(m.loose(), True)

    def test_one_grade(self):
        self.assertIsNone(ScaleMap.same(single()).fault())
        self.assertEqual(ScaleMap(single(), ChainScale(2), ["1"]).fault(), ("none", ()))
        self.assertEqual(ScaleMap(single(), ChainScale(2), ["0"]).fault(), ("unit", ()))
        self.assertIsNone(ScaleMap(ChainScale(2), single(), ["g", "g"]).fault())


class LooseMaps(Checks):

    def test_by_words(self):
        found = []
        for source, target in itertools.product(small_scales(), repeat=2):
            for m in scale_maps(source, target):
                found.append(m.loose())
                self.assertIs(found[-1], loose_by_words(source, target, images_of(m)))
                if m.fault() is None:
                    self.assertIs(m.loose(), True)
        self.assertGreater(found.count(True), 50)
        self.assertGreater(found.count(False), 50)

    def test_by_hand(self):
        scale = DistanceScale(2)
        for images, expected in ((["0", "1", "1", "1"], True), (["0", "1", "1", "far"], False),
                                 (["0"] * 4, True), (["1", "1", "1", "1"], False), (["0", "2", "1", "far"], False),
                                 (["0", "1", "far", "far"], False), (["0", "2", "2", "2"], True)):
            self.assertIs(ScaleMap(scale, scale, images).loose(), expected)

    def test_each_rule_alone(self):
        # Unit, order and product in turn are not kept.
        self.assertIs(ScaleMap(ChainScale(2), ChainScale(2), ["0", "0"]).loose(), False)
        self.assertIs(ScaleMap(ChainScale(2), ChainScale(2), ["1", "1"]).loose(), True)
        m = ScaleMap(beyond_unit(), beyond_unit(), ["many", "one", "one"])
        self.assertIs(m.loose(), False)
        self.assertIs(cut(2, 2).loose(), True)
        self.assertIs(ScaleMap(DistanceScale(2), DistanceScale(4), ["0", "1", "3", "far"]).loose(), False)
        self.assertIs(ScaleMap(DistanceScale(2), DistanceScale(4), ["0", "2", "3", "4"]).loose(), True)

    def test_the_order_of_the_product(self):
        scale = sided()
        for target, images in itertools.product((scale, TurnedScale(scale)), itertools.product(scale.grades(), repeat=4)):
            m = ScaleMap(scale, target, list(images))
            self.assertIs(m.loose(), loose_by_words(scale, target, images))
        self.assertIs(ScaleMap(scale, TurnedScale(scale), scale.grades()).loose(), False)
        self.assertIs(converse().loose(), True)

    def test_halves(self):
        self.assertIs(halves().loose(), True)
        self.assertEqual(halves().fault(), ("then", ("1", "1")))


class CarriedThings(Checks):

    def check_carried(self, m, space):
        rows = [[m.image(grade) for grade in row] for row in space.rows()]
        found = carried(m, space)
        self.assertIs(type(found), Space)
        self.assertEqual((found.scale, found.points(), found.rows()), (m.target, space.points(), rows))
        if "l.a" not in space:
            self.assertEqual(Space(m.target, space.points(), rows), found)
        return found

    def check_map(self, m, moved):
        found = carried_map(m, moved)
        self.check_same(found, SpaceMap(carried(m, moved.source), carried(m, moved.target), moved.images()))

    def check_table(self, m, table):
        rows = [[m.image(grade) for grade in row] for row in table.rows()]
        found = carried_table(m, table)
        self.check_same(found, Table(carried(m, table.source), carried(m, table.target), rows))
        return found

    def check_all(self, m, seed):
        first, second = some_space(m.source, 2, seed), some_space(m.source, 3, seed + 1)
        for space in (first, second, Space(m.source, [], [])):
            self.check_carried(m, space)
            self.check_map(m, SpaceMap.same(space))
        for moved in all_maps(first, second)[:3]:
            self.check_map(m, moved)
        self.check_table(m, some_table(first, second, seed))
        self.check_table(m, Table(Space(m.source, [], []), first, []))

    def test_all_loose_maps_of_small_scales(self):
        for source, target in itertools.product(small_scales(), repeat=2):
            for seed, m in enumerate(loose_maps(source, target)[:12]):
                self.check_all(m, seed)

    def test_some_loose_maps(self):
        for m in (cut(5, 3), cut(14, 1), converse(), halves(), all_top(StepScale(2), DistanceScale(5)),
                  all_top(PairScale(ChainScale(2), DistanceScale(2)), beyond_unit()),
                  ScaleMap(ChainScale(2), StepScale(2), ["0000", "1001"])):
            for seed in range(4):
                self.check_all(m, seed)

    def test_by_hand(self):
        found = self.check_carried(cut(9, 3), distances())
        self.assertEqual(found.rows(), [["0", "2", "far"], ["far", "0", "3"], ["far", "far", "0"]])
        found = self.check_carried(converse(), moves())
        self.assertEqual(found.near("a", "b"), "0100")
        self.assertEqual(found.scale, TurnedScale(StepScale(2)))
        m = ScaleMap(ChainScale(3), DistanceScale(2), ["far", "1", "0"])
        self.assertEqual(self.check_carried(m, further_names()).rows(), [["0", "far"], ["1", "0"]])

    def test_near_itself_may_be_carried_beyond_unit(self):
        m = all_top(diamond(), beyond_unit())
        self.assertEqual(self.check_carried(m, sides()).rows(), [["many"] * 3] * 3)

    def test_the_map_of_scales_that_changes_nothing(self):
        for scale in regular_scales():
            space, table = some_space(scale, 3), some_table(some_space(scale, 2), some_space(scale, 3, 1), 2)
            m = ScaleMap.same(scale)
            self.assertEqual(carried(m, space), space)
            self.check_same(carried_map(m, SpaceMap.same(space)), SpaceMap.same(space))
            self.check_same(carried_table(m, table), table)

    def test_along_two_maps(self):
        for m, n in ((cut(5, 3), cut(3, 1)), (cut(5, 4), halves()),
                     (converse(), ScaleMap.same(TurnedScale(StepScale(2)))),
                     (cut(5, 2), ScaleMap(DistanceScale(2), ChainScale(3), ["2", "1", "1", "0"]))):
            first, second = some_space(m.source, 2, 3), some_space(m.source, 3, 4)
            table = some_table(first, second, 5)
            if n.loose():
                self.assertEqual(carried(n, carried(m, first)), carried(m >> n, first))
                self.check_same(carried_table(n, carried_table(m, table)), carried_table(m >> n, table))
                for moved in all_maps(first, second):
                    self.check_same(carried_map(n, carried_map(m, moved)), carried_map(m >> n, moved))

    def test_composites(self):
        for m in (cut(5, 3), cut(9, 1), converse(), ScaleMap(ChainScale(2), StepScale(2), ["0000", "1001"]),
                  ScaleMap(DistanceScale(2), DistanceScale(5), ["0", "2", "4", "far"])):
            a, b, c = (some_space(m.source, count, count) for count in (2, 3, 2))
            first, second = some_table(a, b, 1), some_table(b, c, 2)
            self.check_same(carried_table(m, first >> second), carried_table(m, first) >> carried_table(m, second))
            for p, q in itertools.product(all_maps(a, b)[:5], all_maps(b, c)[:5]):
                self.check_same(carried_map(m, p >> q), carried_map(m, p) >> carried_map(m, q))

    def check_raises_for(self, error, m, space):
        empty = Space(space.scale, [], [])
        self.check_raises(error, {}, carried, m, space)
        self.check_raises(error, {}, carried_map, m, SpaceMap.same(space))
        self.check_raises(error, {}, carried_table, m, Table.own(space))
        self.check_raises(error, {}, carried, m, empty)
        self.check_raises(error, {}, carried_map, m, SpaceMap(empty, space, []))
        self.check_raises(error, {}, carried_table, m, Table(empty, space, []))

    def test_mixed_scales(self):
        not_loose = ScaleMap(ChainScale(2), DistanceScale(9), ["far", "3"])
        self.assertFalse(not_loose.loose())
        for m in (cut(8, 3), ScaleMap.same(ChainScale(3)), not_loose, ScaleMap(ChainScale(2), DistanceScale(9), ["far", "0"])):
            self.check_raises_for(MixedScales, m, distances())
        self.check_raises_for(MixedScales, converse(), Space(TurnedScale(StepScale(2)), ["a"], [["1001"]]))

    def test_not_loose(self):
        self.check_raises_for(NotLoose, ScaleMap(DistanceScale(9), ChainScale(2), ["0"] * 11), distances())
        self.check_raises_for(NotLoose, ScaleMap(DistanceScale(9), DistanceScale(9), ["1"] + ["far"] * 10), distances())
        self.check_raises_for(NotLoose, cut(9, 3) >> ScaleMap(DistanceScale(3), ChainScale(2), ["1", "0", "0", "0", "1"]),
                              distances())

    def test_scales_made_apart(self):
        space = Space(told_again(DistanceScale(4)), ["a", "b"], [["0", "3"], ["2", "0"]])
        self.assertEqual(carried(halves(), space).rows(), [["0", "2"], ["1", "0"]])


class ListsOfTheCaller(Checks):

    def test_changes_afterwards(self):
        images = ["0", "1", "1", "2", "2", "far"]
        told = copy.deepcopy(images)
        m = ScaleMap(DistanceScale(4), DistanceScale(2), images)
        self.assertEqual(images, told)
        images[0] = "far"
        images.pop()
        self.check_same(m, halves())
        self.assertEqual(m.image("0"), "0")

    def test_the_arguments_are_left_alone(self):
        space, table = some_space(DistanceScale(4), 2), some_table(*[some_space(DistanceScale(4), 2)] * 2, 3)
        told = (space.rows(), table.rows())
        carried(halves(), space).rows().clear()
        carried_table(halves(), table).rows().clear()
        carried_map(halves(), SpaceMap.same(space)).images().clear()
        self.assertEqual((space.rows(), table.rows()), told)


if __name__ == "__main__":
    unittest.main()
