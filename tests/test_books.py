"""Points 1, 28 and 29: books of told bounds."""

import itertools
import random
import unittest

from farscale.books import Book
from farscale.errors import (BadName, Clash, FarscaleError, NothingDone, NotTold, TwiceTold, UnknownGrade,
                             UnknownPoint)
from farscale.families import ChainScale, DistanceScale, StepScale, TurnedScale
from farscale.spaces import Space
from farscale.told import told_space
from tests.at_hand import (beyond_unit, closed_by_rounds, diamond, growing, named, regular_scales, sided, single)
from tests.checks import Checks


def content(book):
    """All that a book tells of its bounds."""
    return book.steps(), book.caps(), len(book), book.shown().rows()


def taken_back(book):
    """What the book tells behind each undo, until nothing is left; the book is empty then."""
    found = []
    while True:
        found.append(content(book))
        try:
            book.undo()
        except NothingDone:
            return found


def retold(book):
    """Another book with the same bounds."""
    other = Book(book.scale, book.points())
    for bound in book.steps():
        other.step(*bound)
    for bound in book.caps():
        other.cap(*bound)
    return other


def near_rows(book, steps):
    """The told space of the steps, worked out anew."""
    return closed_by_rounds(book.scale, book.points(), [step[1:] for step in steps])


def near_by_rounds(book, steps):
    rows = near_rows(book, steps)
    return {(x, y): grade for x, row in zip(book.points(), rows) for y, grade in zip(book.points(), row)}


def first_broken(book, steps, caps):
    """The first cap that does not hold, by the words of point 28."""
    near = near_by_rounds(book, steps)
    return next((cap for cap in caps if book.scale.join(near[cap[1], cap[2]], cap[3]) != cap[3]), None)


def fewest_steps(scale, steps, cap):
    """The least length of a path that breaks the cap."""
    _, x, y, grade = cap
    front, seen, count = {(x, scale.unit)}, set(), 0
    while not any(point == y and scale.join(product, grade) != grade for point, product in front):
        seen |= front
        front = {(to, scale.then(product, told)) for point, product in front
                 for _, begin, to, told in steps if begin == point} - seen
        count += 1
    return count


def trip():
    """Distances up to 9, four points in a row, and a cap on the way from the first to the last one."""
    book = Book(DistanceScale(9), ["a", "b", "c", "d"])
    book.step("ab", "a", "b", "2")
    book.step("bc", "b", "c", "3")
    book.cap("far", "a", "d", "7")
    return book


class BookTest(Checks):

    def check_unchanged(self, error, told, book, call, *arguments):
        """The call raises the error, and the book is as before, also as to what can be taken back."""
        before = content(book)
        self.check_raises(error, told, call, *arguments)
        self.assertEqual(content(book), before)

    def check_clash(self, book, steps, caps, call, *arguments):
        """The call raises Clash for the first broken cap, with a path of the fewest steps."""
        before = content(book)
        with self.assertRaises(Clash) as caught:
            call(*arguments)
        self.assertEqual(content(book), before)
        cap = first_broken(book, steps, caps)
        self.assertEqual((caught.exception.name, set(vars(caught.exception))), (cap[0], {"name", "path"}))
        path = caught.exception.path
        self.assertIs(type(path), list)
        by_name = {step[0]: step for step in steps}
        point, product = cap[1], book.scale.unit
        for name in path:
            _, x, y, grade = by_name[name]
            self.assertEqual(x, point)
            point, product = y, book.scale.then(product, grade)
        self.assertEqual(point, cap[2])
        self.assertNotEqual(book.scale.join(product, cap[3]), cap[3])
        self.assertEqual(len(path), fewest_steps(book.scale, steps, cap))
        return caught.exception.name, path


class ToldBounds(BookTest):

    def test_a_new_book(self):
        scale = DistanceScale(5)
        book = Book(scale, ["b", "a"])
        self.assertIs(book.scale, scale)
        self.assertEqual((book.points(), content(book)), (["b", "a"], ([], [], 0, [["0", "far"], ["far", "0"]])))
        self.assertEqual(book.shown(), told_space(scale, ["b", "a"], []))

    def test_wrong_points(self):
        for points, error, name in ((["a", "B"], BadName, "B"), (["a", "b", "a"], TwiceTold, "a"), ([""], BadName, ""),
                                    (["a", "a", "B"], TwiceTold, "a"), (["1", "a", "a"], BadName, "1"),
                                    (["l.a"], BadName, "l.a"), (["abcdefghijklm"], BadName, "abcdefghijklm")):
            self.check_raises(error, {"name": name}, Book, ChainScale(2), points)

    def test_steps_and_caps_in_the_order_in_which_they_were_told(self):
        book = trip()
        self.assertEqual(book.steps(), [("ab", "a", "b", "2"), ("bc", "b", "c", "3")])
        self.assertEqual(book.caps(), [("far", "a", "d", "7")])
        book.cap("again", "a", "d", "6")
        book.step("aa", "a", "b", "2")
        self.assertEqual([step[0] for step in book.steps()], ["ab", "bc", "aa"])
        self.assertEqual([cap[0] for cap in book.caps()], ["far", "again"])
        self.assertEqual([type(bound) for bound in book.steps() + book.caps()], [tuple] * 5)

    def test_no_return_values(self):
        book = trip()
        self.assertEqual([book.step("s", "a", "b", "3"), book.cap("c", "b", "a", "9"), book.drop("s"), book.undo()],
                         [None] * 4)

    def test_in_and_len(self):
        book = trip()
        self.assertEqual([name in book for name in ("ab", "far", "a", "", "abc", "fa", "d", "bc")],
                         [True, True, False, False, False, False, False, True])
        self.assertEqual((len(book), len(Book(ChainScale(2), ["a"]))), (3, 0))
        self.assertIs("ab" in book, True)
        self.assertIs("x" in book, False)

    def test_the_told_space(self):
        book = trip()
        self.assertIs(type(book.shown()), Space)
        self.assertEqual(book.shown(), told_space(book.scale, book.points(), [("a", "b", "2"), ("b", "c", "3")]))
        self.assertEqual((book.reach("a", "c"), book.reach("c", "a"), book.reach("d", "d")), ("5", "far", "0"))

    def test_unknown_points(self):
        book = trip()
        for call in (book.reach, book.why, book.slack):
            self.check_raises(UnknownPoint, {"name": "x"}, call, "x", "y")
            self.check_raises(UnknownPoint, {"name": "y"}, call, "a", "y")
            self.check_raises(UnknownPoint, {"name": "ab"}, call, "ab", "a")

    def test_wrong_bounds(self):
        book = trip()
        for call in (book.step, book.cap):
            for name in ("", "1a", "A", "a b", "a.b", "abcdefghijklm", "far!"):
                self.check_unchanged(BadName, {"name": name}, book, call, name, "x", "y", "z")
                self.check_unchanged(BadName, {"name": name}, book, call, name, "a", "d", "0")
            for name in ("ab", "far"):
                self.check_unchanged(TwiceTold, {"name": name}, book, call, name, "x", "y", "z")
                self.check_unchanged(TwiceTold, {"name": name}, book, call, name, "a", "d", "0")
            self.check_unchanged(UnknownPoint, {"name": "x"}, book, call, "new", "x", "y", "z")
            self.check_unchanged(UnknownPoint, {"name": "y"}, book, call, "new", "a", "y", "z")
            self.check_unchanged(UnknownGrade, {"name": "z"}, book, call, "new", "a", "d", "z")
            self.check_unchanged(UnknownGrade, {"name": "10"}, book, call, "new", "a", "d", "10")
        self.check_unchanged(Clash, {"name": "far", "path": ["new"]}, book, book.step, "new", "a", "d", "0")
        self.check_unchanged(Clash, {"name": "new", "path": ["ab"]}, book, book.cap, "new", "a", "b", "3")

    def test_names_that_begin_with_one_another(self):
        book = Book(DistanceScale(9), ["a", "aa", "aaa"])
        book.step("s", "a", "aa", "1")
        book.step("ss", "aa", "aaa", "1")
        book.cap("sss", "a", "aaa", "2")
        self.assertEqual([name in book for name in ("s", "ss", "sss", "ssss")], [True, True, True, False])
        self.assertEqual(book.why("a", "aaa"), [["s", "ss"]])
        book.drop("s")
        self.assertEqual((book.steps(), book.caps()), ([("ss", "aa", "aaa", "1")], [("sss", "a", "aaa", "2")]))

    def test_a_name_may_be_that_of_a_point(self):
        book = Book(DistanceScale(9), ["a", "b"])
        book.step("a", "a", "b", "1")
        book.cap("b", "b", "a", "1")
        self.assertEqual((book.why("a", "b"), len(book)), ([["a"]], 2))

    def test_no_points(self):
        for scale in regular_scales():
            book = Book(scale, [])
            self.assertEqual((book.points(), content(book)), ([], ([], [], 0, [])))
            self.check_raises(UnknownPoint, {"name": "a"}, book.step, "s", "a", "b", "x")
            self.check_raises(NothingDone, {}, book.undo)

    def test_lists_belong_to_the_caller(self):
        points = ["a", "b", "c", "d"]
        book = Book(DistanceScale(9), points)
        points.clear()
        book.points().clear()
        book.step("ab", "a", "b", "2")
        book.cap("far", "a", "d", "7")
        book.steps().clear()
        book.caps().append(None)
        book.shown().rows().clear()
        book.why("a", "b")[0].clear()
        book.slack("a", "b").clear()
        self.assertEqual(content(book)[:3], ([("ab", "a", "b", "2")], [("far", "a", "d", "7")], 2))
        self.assertEqual((book.points(), book.why("a", "b")), (["a", "b", "c", "d"], [["ab"]]))
        shown = book.shown()
        book.step("ba", "b", "a", "1")
        self.assertEqual((shown.near("b", "a"), book.reach("b", "a")), ("far", "1"))


class Clashes(BookTest):

    def test_a_path_of_steps(self):
        book = trip()
        found = self.check_clash(book, [*book.steps(), ("cd", "c", "d", "1")], book.caps(),
                                 book.step, "cd", "c", "d", "1")
        self.assertEqual(found, ("far", ["ab", "bc", "cd"]))
        book.step("cd", "c", "d", "2")
        self.assertEqual(book.reach("a", "d"), "7")
        found = self.check_clash(book, book.steps(), [*book.caps(), ("c", "a", "c", "6")],
                                 book.cap, "c", "a", "c", "6")
        self.assertEqual(found, ("c", ["ab", "bc"]))

    def test_the_empty_path(self):
        book = Book(DistanceScale(9), ["a", "b"])
        found = self.check_clash(book, [], [("c", "a", "a", "1")], book.cap, "c", "a", "a", "1")
        self.assertEqual(found, ("c", []))
        book.cap("c", "a", "a", "0")
        book.step("s", "a", "a", "0")
        book = Book(beyond_unit(), ["a"])
        self.check_raises(Clash, {"name": "c", "path": []}, book.cap, "c", "a", "a", "no")
        book.cap("c", "a", "a", "one")
        self.check_raises(Clash, {"name": "c", "path": ["s"]}, book.step, "s", "a", "a", "many")
        book = Book(single(), ["a"])
        book.cap("c", "a", "a", "g")
        self.assertEqual(len(book), 1)

    def test_the_empty_path_has_fewer_steps_than_others(self):
        book = Book(StepScale(2), ["a"])
        book.step("s", "a", "a", "0110")
        self.check_raises(Clash, {"name": "c", "path": []}, book.cap, "c", "a", "a", "0110")
        self.check_raises(Clash, {"name": "c", "path": ["s"]}, book.cap, "c", "a", "a", "1001")
        book.cap("c", "a", "a", "1111")

    def test_the_cap_that_was_told_first(self):
        book = Book(DistanceScale(9), ["a", "b", "c", "d"])
        book.cap("long", "a", "d", "4")
        book.cap("short", "b", "d", "4")
        book.step("ab", "a", "b", "0")
        book.step("bc", "b", "c", "1")
        # Both are broken; the later one by a shorter path.
        found = self.check_clash(book, [*book.steps(), ("cd", "c", "d", "1")], book.caps(),
                                 book.step, "cd", "c", "d", "1")
        self.assertEqual(found, ("long", ["ab", "bc", "cd"]))
        book.drop("long")
        self.assertEqual(self.check_clash(book, [*book.steps(), ("cd", "c", "d", "1")], book.caps(),
                                          book.step, "cd", "c", "d", "1"), ("short", ["bc", "cd"]))
        book.cap("long", "a", "d", "4")
        self.assertEqual(self.check_clash(book, [*book.steps(), ("cd", "c", "d", "1")], book.caps(),
                                          book.step, "cd", "c", "d", "1"), ("short", ["bc", "cd"]))
        book.undo()
        book.undo()
        self.assertEqual(self.check_clash(book, [*book.steps(), ("cd", "c", "d", "1")], book.caps(),
                                          book.step, "cd", "c", "d", "1"), ("long", ["ab", "bc", "cd"]))

    def test_a_path_that_goes_round(self):
        # Only by going round three times the count becomes 3.
        book = Book(growing(5), ["a", "b"])
        book.cap("c", "a", "b", "2")
        book.step("ab", "a", "b", "0")
        found = self.check_clash(book, [*book.steps(), ("bb", "b", "b", "1")], book.caps(),
                                 book.step, "bb", "b", "b", "1")
        self.assertEqual(found, ("c", ["ab", "bb", "bb", "bb"]))

    def test_a_third_grade_is_broken_by_one_of_two_paths(self):
        book = Book(diamond(), ["a", "b"])
        book.cap("c", "a", "b", "east")
        book.step("e", "a", "b", "east")
        self.check_raises(Clash, {"name": "c", "path": ["w"]}, book.step, "w", "a", "b", "west")

    def test_the_path_with_the_fewest_steps_need_not_be_the_nearest(self):
        book = Book(DistanceScale(9), ["a", "b", "c"])
        book.step("ab", "a", "b", "1")
        book.step("bc", "b", "c", "1")
        book.step("ac", "a", "c", "4")
        self.check_raises(Clash, {"name": "c", "path": ["ac"]}, book.cap, "c", "a", "c", "5")
        self.check_raises(Clash, {"name": "c", "path": ["ab", "bc"]}, book.cap, "c", "a", "c", "4")
        book.cap("c", "a", "c", "2")

    def test_unlike_products(self):
        for scale, ab, bc in ((StepScale(2), "0010", "0100"), (TurnedScale(StepScale(2)), "0100", "0010")):
            book = Book(scale, ["a", "b", "c"])
            book.cap("c", "a", "c", "1110")
            book.step("ab", "a", "b", ab)
            self.check_raises(Clash, {"name": "c", "path": ["ab", "bc"]}, book.step, "bc", "b", "c", bc)
            book.step("bc", "b", "c", ab)

    def test_other_scales(self):
        for scale in (ChainScale(3), diamond(), beyond_unit(), sided(), growing(3), StepScale(2), DistanceScale(3)):
            for seed in range(12):
                self.random_bounds(Book(scale, named(3)), random.Random(seed))

    def random_bounds(self, book, chance):
        for number in range(12):
            x, y, grade = chance.choice(book.points()), chance.choice(book.points()), chance.choice(book.scale.grades())
            told = (f"n{number}", x, y, grade)
            is_step = chance.random() < 0.6
            steps, caps = book.steps() + [told] * is_step, book.caps() + [told] * (not is_step)
            call = book.step if is_step else book.cap
            if first_broken(book, steps, caps) is None:
                call(*told)
                self.assertEqual((book.steps(), book.caps()), (steps, caps))
            else:
                self.check_clash(book, steps, caps, call, *told)
            near = near_by_rounds(book, book.steps())
            for (x, y), grade in near.items():
                self.assertEqual(book.reach(x, y), grade)
                told_by_trying = [c for c in book.scale.grades()
                                  if first_broken(book, [*book.steps(), ("s", x, y, c)], book.caps()) is None]
                if number % 4 == 3:
                    self.assertEqual(book.slack(x, y), told_by_trying)


class ReachAndSlack(BookTest):

    def test_reasons(self):
        book = Book(diamond(), ["a", "b", "c"])
        book.step("w", "b", "c", "west")
        book.step("e", "a", "c", "east")
        book.step("ab", "a", "b", "both")
        self.assertEqual(sorted(book.why("a", "c")), [["ab", "w"], ["e"]])
        self.assertEqual((book.why("c", "a"), book.why("a", "a")), ([], [[]]))
        book.step("ac", "a", "c", "both")
        self.assertEqual(book.why("a", "c"), [["ac"]])
        book.drop("w")
        self.assertEqual(book.why("b", "c"), [])

    def test_reasons_of_some_books(self):
        for scale in (StepScale(2), diamond(), DistanceScale(4), beyond_unit(), growing(3), sided(), single()):
            for seed in range(5):
                chance, book = random.Random(seed), Book(scale, named(4))
                for number in range(7):
                    book.step(f"s{number}", chance.choice(named(4)), chance.choice(named(4)),
                              chance.choice(scale.grades()))
                for x, y in itertools.product(book.points(), repeat=2):
                    self.check_why(book, x, y)

    def check_why(self, book, x, y):
        paths, scale, by_name = book.why(x, y), book.scale, {step[0]: step for step in book.steps()}
        products = []
        for path in paths:
            point, product = x, scale.unit
            for name in path:
                self.assertEqual(by_name[name][1], point)
                point, product = by_name[name][2], scale.then(product, by_name[name][3])
            self.assertEqual(point, y)
            products.append(product)
        self.assertEqual(scale.joined(products), book.reach(x, y))
        for place in range(len(products)):
            self.assertNotEqual(scale.joined(products[:place] + products[place + 1:]), book.reach(x, y))

    def test_slack_by_hand(self):
        book = trip()
        self.assertEqual(book.slack("c", "d"), ["2", "3", "4", "5", "6", "7", "8", "9", "far"])
        self.assertEqual(book.slack("d", "a"), DistanceScale(9).grades())
        self.assertEqual(book.slack("a", "d"), ["7", "8", "9", "far"])
        book.cap("none", "b", "a", "far")
        self.assertEqual(book.slack("b", "a"), ["far"])
        self.assertEqual(book.slack("c", "a"), ["7", "8", "9", "far"])
        self.assertEqual(len(book), 4)

    def test_slack_is_what_can_be_told(self):
        told = kept = 0
        for scale in (StepScale(2), diamond(), DistanceScale(4), beyond_unit(), growing(4), sided(), single()):
            for seed in range(6):
                chance, book = random.Random(seed), Book(scale, named(3))
                for number in range(8):
                    x, y, grade = chance.choice(named(3)), chance.choice(named(3)), chance.choice(scale.grades())
                    try:
                        (book.cap if number % 2 else book.step)(f"n{number}", x, y, grade)
                    except Clash:
                        pass
                before = content(book)
                for x, y in itertools.product(book.points(), repeat=2):
                    slack = book.slack(x, y)
                    self.assertEqual(content(book), before)
                    for grade in scale.grades():
                        other = retold(book)
                        try:
                            other.step("new", x, y, grade)
                            self.assertIn(grade, slack)
                            told += 1
                        except Clash:
                            self.assertNotIn(grade, slack)
                            kept += 1
                    self.assertEqual(slack, [grade for grade in scale.grades() if grade in slack])
        self.assertGreater(told, 100)
        self.assertGreater(kept, 100)

    def test_slack_without_caps(self):
        for scale in regular_scales():
            book = Book(scale, ["a", "b"])
            self.assertEqual(book.slack("a", "b"), scale.grades())

    def test_forty_points(self):
        book = Book(DistanceScale(14), named(40))
        for number in range(39):
            book.step(f"s{number}", f"p{number}", f"p{number + 1}", "0" if number % 4 else "1")
        book.cap("c", "p0", "p39", "9")
        self.assertEqual((book.reach("p0", "p39"), book.reach("p39", "p0")), ("10", "far"))
        self.assertEqual(book.why("p0", "p39"), [[f"s{number}" for number in range(39)]])
        self.assertEqual(book.slack("p0", "p39"), ["9", "10", "11", "12", "13", "14", "far"])
        self.check_raises(Clash, {"name": "c", "path": ["new"]}, book.step, "new", "p0", "p39", "8")


class Drops(BookTest):

    def test_steps_and_caps(self):
        book = trip()
        book.drop("ab")
        self.assertEqual(content(book)[:3], ([("bc", "b", "c", "3")], [("far", "a", "d", "7")], 2))
        self.assertEqual((book.reach("a", "c"), "ab" in book), ("far", False))
        book.drop("far")
        self.assertEqual(content(book)[:3], ([("bc", "b", "c", "3")], [], 1))
        self.assertEqual(book.slack("a", "d"), book.scale.grades())

    def test_the_name_is_free_again(self):
        book = trip()
        book.drop("ab")
        book.cap("ab", "a", "b", "9")
        self.assertEqual(book.caps(), [("far", "a", "d", "7"), ("ab", "a", "b", "9")])
        book.drop("far")
        book.step("far", "a", "d", "0")
        self.assertEqual(book.reach("a", "d"), "0")

    def test_not_told(self):
        book = trip()
        for name in ("x", "", "a", "abc", "A", "7"):
            self.check_unchanged(NotTold, {"name": name}, book, book.drop, name)
        book.drop("ab")
        self.check_unchanged(NotTold, {"name": "ab"}, book, book.drop, "ab")
        book.undo()
        book.drop("ab")

    def test_a_step_that_is_not_needed(self):
        book = trip()
        book.step("more", "a", "b", "5")
        book.drop("more")
        self.assertEqual(book.reach("a", "b"), "2")
        book.step("more", "a", "b", "5")
        book.drop("ab")
        self.assertEqual((book.reach("a", "b"), book.why("a", "b")), ("5", [["more"]]))


class Undoing(BookTest):

    def test_the_last_change(self):
        book = trip()
        found = taken_back(book)
        self.assertEqual([(len(steps), len(caps)) for steps, caps, _, _ in found], [(2, 1), (2, 0), (1, 0), (0, 0)])
        self.check_unchanged(NothingDone, {}, book, book.undo)
        book.step("s", "a", "b", "1")
        self.assertEqual(book.steps(), [("s", "a", "b", "1")])

    def test_an_empty_book(self):
        book = Book(ChainScale(2), ["a"])
        self.check_unchanged(NothingDone, {}, book, book.undo)

    def test_a_drop_stands_where_it_stood(self):
        book = trip()
        book.step("cd", "c", "d", "2")
        book.cap("more", "a", "b", "1")
        book.cap("last", "a", "c", "2")
        before = content(book)
        for name in ("ab", "bc", "cd", "far", "more", "last"):
            book.drop(name)
            self.assertNotIn(name, book)
            book.undo()
            self.assertEqual(content(book), before)
        for name in ("bc", "far", "ab", "more"):
            book.drop(name)
        for _ in range(4):
            book.undo()
        self.assertEqual(content(book), before)

    def test_what_is_taken_back_is_gone(self):
        book = trip()
        book.undo()
        book.undo()
        book.cap("new", "b", "c", "3")
        book.undo()
        self.assertEqual(content(book)[:3], ([("ab", "a", "b", "2")], [], 1))
        book.undo()
        self.check_raises(NothingDone, {}, book.undo)

    def test_calls_that_fail_are_no_changes(self):
        book = trip()
        for call, arguments in ((book.step, ("ab", "a", "b", "1")), (book.step, ("new", "a", "d", "0")),
                                (book.cap, ("new", "a", "b", "9")), (book.drop, ("x", )), (book.reach, ("x", "y"))):
            with self.assertRaises((FarscaleError, LookupError)):
                call(*arguments)
        self.assertEqual(taken_back(book), taken_back(trip()))

    def test_looking_is_no_change(self):
        book = trip()
        for look in (book.steps, book.caps, book.points, book.shown):
            look()
        for look in (book.why, book.reach, book.slack):
            look("a", "b")
        self.assertEqual(len(taken_back(book)), 4)

    def test_many_changes_all_taken_back(self):
        chance, book, found = random.Random(5), Book(DistanceScale(9), named(5)), []
        for number in range(400):
            before = content(book)
            x, y, grade = chance.choice(named(5)), chance.choice(named(5)), chance.choice(book.scale.grades())
            kind = chance.choice(["step", "cap", "drop"])
            told = [bound[0] for bound in book.steps() + book.caps()]
            try:
                if kind == "drop":
                    book.drop(chance.choice(told or ["x"]))
                else:
                    (book.step if kind == "step" else book.cap)(f"n{number}", x, y, grade)
                found.append(before)
            except (Clash, NotTold):
                self.assertEqual(content(book), before)
        self.assertGreater(len(found), 200)
        found.append(content(book))
        self.assertEqual(found[-1][3], near_rows(book, book.steps()))
        self.assertEqual(taken_back(book), found[::-1])


class Attempts(BookTest):

    def failing(self, change, error=RuntimeError):
        def action(book):
            change(book)
            raise error("no")
        return action

    def check_as_before(self, book, change, error=RuntimeError):
        """The attempt fails; the book is as before, also as to all that can be taken back."""
        same = trip()
        before = content(book)
        with self.assertRaises(error) as caught:
            book.attempt(self.failing(change, error))
        self.assertIs(type(caught.exception), error)
        self.assertEqual(content(book), before)
        self.assertEqual(taken_back(book), taken_back(same))

    def test_what_the_action_returns(self):
        book = trip()

        def action(same):
            self.assertIs(same, book)
            same.step("s", "a", "b", "5")
            return ["told"]

        self.assertEqual(book.attempt(action), ["told"])
        self.assertIn("s", book)
        self.assertIs(book.attempt(lambda same: None), None)
        self.assertIs(book.attempt(lambda same: False), False)
        self.assertIs(book.attempt(lambda same: same.step("t", "a", "b", "6")), None)
        self.assertIn("t", book)

    def test_a_failure(self):
        for error in (RuntimeError, KeyError, KeyboardInterrupt, StopIteration, ZeroDivisionError, SystemExit,
                      GeneratorExit):
            self.check_as_before(trip(), lambda book: None, error)
            self.check_as_before(trip(), lambda book: book.step("s", "a", "b", "1"), error)
            self.check_as_before(trip(), lambda book: (book.drop("ab"), book.cap("c", "b", "c", "3")), error)

    def test_own_errors(self):
        book = trip()

        def action(same):
            same.drop("ab")
            same.step("s", "a", "b", "1")
            same.step("cd", "c", "d", "0")

        self.check_unchanged(Clash, {"name": "far", "path": ["s", "bc", "cd"]}, book, book.attempt, action)
        self.check_unchanged(NotTold, {"name": "x"}, book, book.attempt, lambda same: (same.drop("ab"), same.drop("x")))
        self.check_unchanged(NothingDone, {}, book, book.attempt, lambda same: [same.undo() for _ in range(4)])
        self.assertEqual(taken_back(book), taken_back(trip()))

    def test_undoing_what_was_done_ahead(self):
        self.check_as_before(trip(), lambda book: book.undo())
        self.check_as_before(trip(), lambda book: (book.undo(), book.undo(), book.undo()))
        self.check_as_before(trip(), lambda book: (book.undo(), book.step("s", "a", "d", "0"), book.undo(),
                                                   book.undo(), book.cap("c", "a", "c", "far")))

    def test_undoing_what_was_done_ahead_for_good(self):
        book = trip()
        book.attempt(lambda same: (same.undo(), same.step("s", "a", "d", "0")))
        self.assertEqual(content(book)[:3], ([("ab", "a", "b", "2"), ("bc", "b", "c", "3"), ("s", "a", "d", "0")],
                                             [], 3))
        self.assertEqual(len(taken_back(book)), 4)

    def test_what_was_done_is_taken_back_change_by_change(self):
        book = trip()
        book.attempt(lambda same: (same.step("s", "a", "b", "5"), same.drop("ab"), same.cap("c", "d", "a", "far")))
        found = taken_back(book)
        self.assertEqual([[bound[0] for bound in steps + caps] for steps, caps, _, _ in found],
                         [["bc", "s", "far", "c"], ["bc", "s", "far"], ["ab", "bc", "s", "far"], ["ab", "bc", "far"],
                          ["ab", "bc"], ["ab"], []])

    def test_attempts_in_one_another(self):
        book = trip()

        def inner(same):
            same.step("inner", "a", "b", "4")
            return 1

        def outer(same):
            same.step("outer", "a", "b", "3")
            return 1 + same.attempt(inner)

        self.assertEqual(book.attempt(outer), 2)
        self.assertEqual([step[0] for step in book.steps()], ["ab", "bc", "outer", "inner"])
        self.check_as_before(trip(), lambda same: same.attempt(outer))

    def test_the_error_of_an_inner_attempt_is_caught(self):
        book = trip()

        def outer(same):
            same.step("outer", "a", "b", "3")
            try:
                same.attempt(self.failing(lambda again: (again.undo(), again.undo(), again.step("s", "a", "d", "0"))))
            except RuntimeError:
                same.cap("behind", "d", "a", "far")
            return same.steps()

        self.assertEqual([step[0] for step in book.attempt(outer)], ["ab", "bc", "outer"])
        self.assertEqual([[bound[0] for bound in steps + caps] for steps, caps, _, _ in taken_back(book)],
                         [["ab", "bc", "outer", "far", "behind"], ["ab", "bc", "outer", "far"], ["ab", "bc", "far"],
                          ["ab", "bc"], ["ab"], []])

    def test_the_error_of_an_inner_attempt_goes_on(self):
        self.check_as_before(trip(), lambda book: book.attempt(self.failing(lambda same: same.drop("bc"))))
        self.check_as_before(trip(), lambda book: (book.drop("ab"),
                                                   book.attempt(self.failing(lambda same: same.drop("bc")))))

    def test_a_clash_that_the_action_catches(self):
        book = trip()

        def action(same):
            same.step("s", "c", "d", "5")
            try:
                same.step("t", "c", "d", "0")
            except Clash as clash:
                return clash.path

        self.assertEqual(book.attempt(action), ["ab", "bc", "t"])
        self.assertEqual([step[0] for step in book.steps()], ["ab", "bc", "s"])

    def test_callable_objects(self):
        class Action:
            def __call__(self, book):
                return book.drop("ab")

        book = trip()
        self.assertIsNone(book.attempt(Action()))
        self.assertNotIn("ab", book)

    def test_attempts_behind_attempts(self):
        book = trip()
        for number in range(50):
            with self.assertRaises(RuntimeError):
                book.attempt(self.failing(lambda same: (same.undo(), same.step("s", "a", "b", "1"))))
            book.attempt(lambda same: same.step(f"n{number}", "a", "b", "9"))
        self.assertEqual(len(book), 53)
        self.assertEqual(len(taken_back(book)), 54)

    def test_random_changes(self):
        for seed in range(30):
            chance, book = random.Random(seed), Book(DistanceScale(5), named(3))
            history = []
            self.change_at_random(book, chance, history, 0)
            history.append(content(book))
            self.assertEqual(history[-1][3], near_rows(book, book.steps()))
            self.assertEqual(taken_back(book), history[::-1])

    def change_at_random(self, book, chance, history, depth):
        """Changes of all kinds; the history has what the book told ahead of each that is not taken back."""
        for number in range(12):
            before = content(book)
            kind = chance.choice(["step", "cap", "drop", "undo", "attempt", "failure"])
            x, y, grade = chance.choice(named(3)), chance.choice(named(3)), chance.choice(book.scale.grades())
            name = chance.choice([f"n{chance.randrange(10)}"] + [bound[0] for bound in book.steps() + book.caps()])
            try:
                if kind in ("step", "cap"):
                    (book.step if kind == "step" else book.cap)(name, x, y, grade)
                    history.append(before)
                elif kind == "drop":
                    book.drop(name)
                    history.append(before)
                elif kind == "undo":
                    book.undo()
                    self.assertEqual(content(book), history.pop())
                elif depth < 3:
                    self.attempt_at_random(book, chance, history, depth, kind)
            except (Clash, TwiceTold, NotTold, NothingDone):
                self.assertEqual(content(book), before)

    def attempt_at_random(self, book, chance, history, depth, kind):
        before, kept = content(book), list(history)

        def action(same):
            self.change_at_random(same, chance, history, depth + 1)
            if kind == "failure":
                raise RuntimeError

        try:
            book.attempt(action)
        except RuntimeError:
            self.assertEqual(content(book), before)
            history[:] = kept


if __name__ == "__main__":
    unittest.main()
