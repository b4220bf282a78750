"""Events and marks: 1.1."""

import copy
import unittest

from bestsbook.errors import NoMark, NoWay
from bestsbook.marks import best_of, better, is_event
from tests.things import anything, but_numbers, but_truths, refused

LEAST, MOST = 1, 10 ** 6
NO_MARKS = but_numbers(LEAST, MOST) + [0, MOST + 1, -5]


def but_ways():
    things = [thing for thing in anything() if not (isinstance(thing, str) and thing in ("less", "more"))]
    return things + ["Less", "MORE", "less ", "mor", "lessmore", b"less"]


class Events(unittest.TestCase):

    def assert_event(self, expected, thing):
        self.assertIs(is_event(thing), expected, repr(thing)[:80])

    def test_events(self):
        for way in ("less", "more"):
            for windy in (True, False):
                self.assert_event(True, ("run", way, windy))
        self.assertIs(is_event(thing=("run", "less", False)), True)

    def test_names_of_one_to_eight_letters(self):
        for name in ("a", "z", "az", "abcdefgh", "stuvwxyz", "ijklmnop", "qr"):
            self.assert_event(True, (name, "less", False))
        for name in ("", "abcdefghi", "x" * 4000):
            self.assert_event(False, (name, "less", False))

    def test_names_of_other_signs(self):
        others = "AZ09 -_.'`{~\t\n" + "\u00e9\u00df\u03b1\u0131\uff41"
        for sign in others:
            for name in (sign, sign + "run", "run" + sign, "r" + sign + "n"):
                self.assert_event(False, (name, "less", False))

    def test_other_names(self):
        for thing in anything() + [b"run"]:
            good = isinstance(thing, str) and thing in ("a", "ann", "less", "more")
            self.assert_event(good, (thing, "less", False))

    def test_other_ways(self):
        for thing in but_ways():
            self.assert_event(False, ("run", thing, False))

    def test_other_windy(self):
        for thing in but_truths():
            self.assert_event(False, ("run", "less", thing))

    def test_other_lengths(self):
        for thing in ((), ("run",), ("run", "less"), ("run", "less", False, False), ("run", "less", False, None)):
            self.assert_event(False, thing)

    def test_other_kinds(self):
        for thing in anything():
            self.assert_event(thing == ("run", "less", False), thing)
        self.assert_event(False, ["run", "less", False])
        self.assert_event(False, {"run": 0, "less": 1, False: 2})
        self.assert_event(False, (("run", "less", False),))


class Better(unittest.TestCase):

    def test_less(self):
        self.assertIs(better(5, 6), True)
        self.assertIs(better(6, 5), False)
        self.assertIs(better(5, 5), False)
        self.assertIs(better(9, 10, "less"), True)
        self.assertIs(better(LEAST, MOST), True)
        self.assertIs(better(MOST, LEAST), False)

    def test_more(self):
        self.assertIs(better(6, 5, "more"), True)
        self.assertIs(better(5, 6, "more"), False)
        self.assertIs(better(5, 5, "more"), False)
        self.assertIs(better(MOST, LEAST, "more"), True)
        self.assertIs(better(LEAST, MOST, "more"), False)

    def test_by_name(self):
        self.assertIs(better(other=6, one=5), True)
        self.assertIs(better(5, way="more", other=6), False)
        self.assertIs(better(way="less", one=5, other=6), True)

    def test_no_mark(self):
        for thing in NO_MARKS:
            for way in ("less", "more"):
                self.assertIs(refused(better, thing, 5, way), NoMark)
                self.assertIs(refused(better, 5, thing, way), NoMark)
                self.assertIs(refused(better, thing, thing, way), NoMark)

    def test_no_way(self):
        for thing in but_ways():
            self.assertIs(refused(better, 5, 6, thing), NoWay)
            self.assertIs(refused(better, 5, 5, thing), NoWay)

    def test_no_mark_is_due_ahead_of_no_way(self):
        for thing in NO_MARKS:
            self.assertIs(refused(better, thing, 5, "most"), NoMark)
            self.assertIs(refused(better, 5, thing, "most"), NoMark)
            self.assertIs(refused(better, way=None, other=5, one=thing), NoMark)


class BestOf(unittest.TestCase):

    def test_least_and_most(self):
        for kind in (list, tuple):
            marks = kind([7, 3, 9, 3, 8])
            self.assertEqual(best_of(marks), 3)
            self.assertEqual(best_of(marks, "less"), 3)
            self.assertEqual(best_of(marks, "more"), 9)
            self.assertEqual(best_of(kind([4]), "more"), 4)
            self.assertEqual(best_of(kind([4])), 4)
            self.assertEqual(best_of(kind([MOST, LEAST]), "less"), LEAST)
            self.assertEqual(best_of(kind([LEAST, MOST]), "more"), MOST)

    def test_marks_are_no_texts(self):
        self.assertEqual(best_of([10, 9]), 9)
        self.assertEqual(best_of([10, 9], "more"), 10)

    def test_none(self):
        for marks in ([], ()):
            for way in ("less", "more"):
                self.assertIsNone(best_of(marks, way))
                for default in anything():
                    self.assertIs(best_of(marks, way, default), default)
                    self.assertIs(best_of(marks, way, default=default), default)
            self.assertIs(best_of(marks, default="nothing"), "nothing")

    def test_default_does_not_matter_where_there_are_marks(self):
        for default in anything():
            self.assertEqual(best_of([6, 5], "less", default), 5)
            self.assertEqual(best_of((6, 5), "more", default=default), 6)

    def test_by_name(self):
        self.assertEqual(best_of(way="more", marks=[1, 2], default=7), 2)
        self.assertEqual(best_of(default=7, marks=()), 7)

    def test_one_that_is_no_mark(self):
        for thing in NO_MARKS:
            for marks in ([thing], [thing, 5, 6], [5, thing, 6], [5, 6, thing]):
                self.assertIs(refused(best_of, marks), NoMark)
                self.assertIs(refused(best_of, tuple(marks), "more", 5), NoMark)

    def test_no_list_or_tuple(self):
        good = ("[]", "()", "[1]", "(1,)", "[12, 16]", "(12, 16)", repr(list(range(1, 101))))
        for thing in anything() + [list(range(1, 101)), {5: 6}, {5: None}, "5", b"\x05", range(1, 3), 5]:
            expected = None if repr(thing) in good else NoMark
            self.assertIs(refused(best_of, thing), expected, repr(thing)[:80])

    def test_no_way(self):
        for thing in but_ways():
            for marks in ([], (), [5], (5, 6)):
                self.assertIs(refused(best_of, marks, thing), NoWay)
                self.assertIs(refused(best_of, marks, way=thing, default=5), NoWay)

    def test_no_mark_is_due_ahead_of_no_way(self):
        for thing in NO_MARKS:
            self.assertIs(refused(best_of, [5, thing], "most"), NoMark)
        self.assertIs(refused(best_of, {}, None), NoMark)
        self.assertIs(refused(best_of, way=None, marks=5), NoMark)


class Unchanged(unittest.TestCase):

    def test_what_is_handed_in_is_as_it_was(self):
        for marks in ([7, 3, 9, 3], (7, 3, 9, 3), [], [3, "x"]):
            for way in ("less", "more", "most"):
                was = copy.deepcopy(marks)
                refused(best_of, marks, way)
                self.assertEqual(marks, was)
        event = ["run", "less", [False]]
        is_event(event)
        is_event(tuple(event))
        self.assertEqual(event, ["run", "less", [False]])

    def test_the_same_question_has_the_same_answer(self):
        marks = [7, 3, 9]
        self.assertEqual([best_of(marks, "more") for _ in range(3)], [9, 9, 9])
        default = [1]
        best_of([], default=default)
        self.assertEqual(default, [1])


if __name__ == "__main__":
    unittest.main()
