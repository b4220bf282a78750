"""Deeds: 4.1."""

import unittest
import unittest.mock

from bestsbook.deeds import Deed
from bestsbook.errors import NoDeed
from tests.things import anything, but_names, but_numbers, check_equal, refused

PARTS = ("name", "event", "mark", "day", "hour", "wind", "course")
GOOD = ("ann", "run", 1234, 5, 7, -20, "track")
NAMES = ("a", "z", "ann", "abcdefgh", "stuvwxyz", "ijklmnop", "qr")
# Of each part: what is good, at its edges, and what is none, one beyond and of any kind.
EDGES = {
    "name": NAMES, "event": NAMES, "course": NAMES,
    "mark": (1, 2, 10 ** 6), "day": (-40000, -1, 0, 40000), "hour": (0, 1, 23), "wind": (-99, -1, 0, 99),
}
BEYOND = {
    "name": but_names(), "event": but_names(), "course": but_names(),
    "mark": but_numbers(1, 10 ** 6) + [0, 10 ** 6 + 1, -1],
    "day": but_numbers(-40000, 40000) + [-40001, 40001],
    "hour": but_numbers(0, 23) + [-1, 24],
    "wind": but_numbers(-99, 99) + [-100, 100],
}


def values(deed):
    return tuple([getattr(deed, part) for part in PARTS])


def with_part(part, value):
    """The parts of a good deed, but for one."""
    return {**dict(zip(PARTS, GOOD)), part: value}


class Values(unittest.TestCase):

    def test_by_place(self):
        self.assertEqual(values(Deed(*GOOD)), GOOD)

    def test_left_out(self):
        self.assertEqual(values(Deed("ann", "run", 1234, 5)), ("ann", "run", 1234, 5, 0, 0, "yard"))
        self.assertEqual(values(Deed("ann", "run", 1234, 5, 7)), ("ann", "run", 1234, 5, 7, 0, "yard"))
        self.assertEqual(values(Deed("ann", "run", 1234, 5, 7, 9)), ("ann", "run", 1234, 5, 7, 9, "yard"))

    def test_by_name(self):
        self.assertEqual(values(Deed("ann", "run", 1234, 5, wind=9)), ("ann", "run", 1234, 5, 0, 9, "yard"))
        self.assertEqual(values(Deed("ann", "run", 1234, 5, course="hill")), ("ann", "run", 1234, 5, 0, 0, "hill"))
        backward = dict(reversed(list(zip(PARTS, GOOD))))
        self.assertEqual(values(Deed(**backward)), GOOD)

    def test_edges(self):
        for part in PARTS:
            for value in EDGES[part]:
                parts = with_part(part, value)
                self.assertEqual(values(Deed(**parts)), tuple(parts.values()))

    def test_time(self):
        self.assertEqual(Deed("ann", "run", 1234, 5).time(), (5, 0))
        self.assertEqual(Deed("ann", "run", 1234, -40000, 23).time(), (-40000, 23))
        self.assertIsInstance(Deed(*GOOD).time(), tuple)


class Refused(unittest.TestCase):

    def test_one_part(self):
        for part in PARTS:
            for thing in BEYOND[part]:
                parts = with_part(part, thing)
                self.assertIs(refused(Deed, **parts), NoDeed, (part, repr(thing)[:80]))
                self.assertIs(refused(Deed, *parts.values()), NoDeed)

    def test_two_parts(self):
        for one in PARTS:
            for other in PARTS:
                for thing in (None, True, [], 10 ** 40 - 1, "Ann"):
                    self.assertIs(refused(Deed, **{**with_part(one, thing), other: thing}), NoDeed)


class Shown(unittest.TestCase):

    def test_str(self):
        self.assertEqual(str(Deed("ann", "run", 1234, 5)), "ann run 1234 5 0 0 yard")
        self.assertEqual(str(Deed("bob", "put", 1, -40000, 23, -99, "hill")), "bob put 1 -40000 23 -99 hill")

    def test_repr(self):
        self.assertEqual(repr(Deed("ann", "run", 1234, 5)), "Deed('ann', 'run', 1234, 5, 0, 0, 'yard')")
        self.assertEqual(repr(Deed("bob", "put", 1, -4, 23, -99, "hill")),
                         "Deed('bob', 'put', 1, -4, 23, -99, 'hill')")
        self.assertEqual(repr([Deed(*GOOD)]), "[Deed('ann', 'run', 1234, 5, 7, -20, 'track')]")


class Equal(unittest.TestCase):

    def test_alike(self):
        deed = Deed(*GOOD)
        check_equal(self, True, deed, deed)
        check_equal(self, True, deed, Deed(*GOOD))
        check_equal(self, True, Deed("ann", "run", 1234, 5), Deed("ann", "run", 1234, 5, 0, 0, "yard"))

    def test_unlike_in_one_part(self):
        for part in PARTS:
            for value in EDGES[part]:
                if value != GOOD[PARTS.index(part)]:
                    check_equal(self, False, Deed(*GOOD), Deed(**with_part(part, value)))

    def test_parts_that_change_places(self):
        check_equal(self, False, Deed("ann", "run", 5, 6), Deed("run", "ann", 5, 6))
        check_equal(self, False, Deed("ann", "run", 5, 6), Deed("ann", "run", 6, 5))
        check_equal(self, False, Deed("ann", "run", 5, 5, 6, 7), Deed("ann", "run", 5, 5, 7, 6))

    def test_beside_what_is_no_deed(self):
        deed = Deed("ann", "run", 1234, 5)
        for thing in anything() + [values(deed), list(values(deed)), str(deed), repr(deed), deed.time()]:
            if not isinstance(thing, Deed):
                check_equal(self, False, deed, thing)
        # Alike in all that a deed has, and yet none.
        check_equal(self, False, deed, unittest.mock.Mock(**dict(zip(PARTS, values(deed)))))


class Unchanged(unittest.TestCase):

    def test_asking_changes_nothing(self):
        deed = Deed(*GOOD)
        for _ in range(2):
            self.assertEqual(deed.time(), (5, 7))
            self.assertEqual(str(deed), "ann run 1234 5 7 -20 track")
            self.assertIs(deed == Deed(*GOOD), True)
        self.assertEqual(values(deed), GOOD)


if __name__ == "__main__":
    unittest.main()
