"""Sheets: 5.1."""

import unittest
import unittest.mock

from bestsbook.deeds import Deed
from bestsbook.errors import NoDeed, NoPlace, NoSheet, NoWord
from bestsbook.people import Person
from bestsbook.sheets import Sheet
from tests.things import anything, but_numbers, check_equal, refused

WORDS = ("time", "mark", "name", "event")
ANN = Deed("ann", "run", 1234, 5)
BOB = Deed("bob", "put", 900, 5, 3)
CY = Deed("cy", "run", 1100, -7, 23, 40, "hill")
NO_DEEDS = [thing for thing in anything() if not isinstance(thing, Deed)] + [Person("ann", 5), str(ANN), repr(ANN)]


def deeds(many):
    """As many deeds, each unlike the others."""
    return [Deed("ann", "run", 1 + k, 5) for k in range(many)]


def same(told, expected):
    """Whether a list is of the very same deeds, in their order."""
    return isinstance(told, list) and len(told) == len(expected) and all(
        one is other for one, other in zip(told, expected))


class Made(unittest.TestCase):

    def assert_deeds(self, sheet, expected):
        self.assertTrue(same(sheet.all_deeds(), expected))
        self.assertEqual(len(sheet), len(expected))

    def test_none_and_nothing_at_all(self):
        for sheet in (Sheet(), Sheet(None), Sheet(deeds=None), Sheet([]), Sheet(()), Sheet(deeds=())):
            self.assert_deeds(sheet, [])

    def test_lists_and_tuples(self):
        for kind in (list, tuple):
            self.assert_deeds(Sheet(kind([ANN])), [ANN])
            self.assert_deeds(Sheet(kind([BOB, ANN, CY])), [BOB, ANN, CY])
            self.assert_deeds(Sheet(deeds=kind([CY, BOB])), [CY, BOB])

    def test_some_twice(self):
        alike = Deed("ann", "run", 1234, 5)
        self.assert_deeds(Sheet([ANN, BOB, ANN, alike]), [ANN, BOB, ANN, alike])
        self.assert_deeds(Sheet([ANN] * 60), [ANN] * 60)

    def test_sixty(self):
        for kind in (list, tuple):
            many = deeds(60)
            self.assert_deeds(Sheet(kind(many)), many)
            self.assert_deeds(Sheet(kind(many[:59])), many[:59])

    def test_more_than_sixty(self):
        for kind in (list, tuple):
            for many in (61, 62, 100):
                self.assertIs(refused(Sheet, kind(deeds(many))), NoSheet)
            self.assertIs(refused(Sheet, kind([ANN] * 61)), NoSheet)

    def test_one_that_is_no_deed(self):
        for thing in NO_DEEDS:
            for among in ([thing], [thing, ANN, BOB], [ANN, thing, BOB], [ANN, BOB, thing]):
                self.assertIs(refused(Sheet, among), NoSheet, repr(thing)[:80])
                self.assertIs(refused(Sheet, deeds=tuple(among)), NoSheet)

    def test_no_list_or_tuple(self):
        for thing in anything() + [{0: ANN}, Sheet([ANN]), ANN, "", {}, iter([ANN]), range(0)]:
            if thing is None or isinstance(thing, (list, tuple)):
                continue
            self.assertIs(refused(Sheet, thing), NoSheet, repr(thing)[:80])
            self.assertIs(refused(Sheet, deeds=thing), NoSheet)

    def test_what_is_handed_in_is_as_it_was(self):
        for handed in ([BOB, ANN], [], [ANN, None], deeds(61)):
            was = list(handed)
            refused(Sheet, handed)
            self.assertTrue(same(handed, was))


class Shown(unittest.TestCase):

    def test_len(self):
        for many in (0, 1, 2, 17, 60):
            self.assertEqual(len(Sheet(deeds(many))), many)

    def test_str(self):
        self.assertEqual(str(Sheet()), "")
        self.assertEqual(str(Sheet([ANN])), "ann run 1234 5 0 0 yard")
        self.assertEqual(str(Sheet((CY, ANN, CY))),
                         "cy run 1100 -7 23 40 hill\nann run 1234 5 0 0 yard\ncy run 1100 -7 23 40 hill")
        self.assertEqual(str(Sheet(deeds(60))), "\n".join([str(deed) for deed in deeds(60)]))

    def test_repr(self):
        for many in (0, 1, 2, 60):
            self.assertEqual(repr(Sheet(deeds(many))), f"Sheet({many})")


class Equal(unittest.TestCase):

    def test_the_same_deeds(self):
        sheet = Sheet([ANN, BOB, ANN])
        check_equal(self, True, sheet, sheet)
        check_equal(self, True, sheet, Sheet((ANN, BOB, ANN)))
        check_equal(self, True, sheet, Sheet([Deed(*deed.parts()) for deed in (ANN, BOB, ANN)]))
        check_equal(self, True, Sheet(), Sheet([]))

    def test_in_another_order(self):
        check_equal(self, True, Sheet([ANN, BOB, ANN, CY]), Sheet([CY, ANN, ANN, BOB]))
        check_equal(self, True, Sheet(deeds(60)), Sheet(deeds(60)[::-1]))
        alike = [Deed("ann", "run", 1234, 5, 0, wind) for wind in (1, 2, 3)]
        check_equal(self, True, Sheet(alike), Sheet(alike[1:] + alike[:1]))

    def test_one_once_more_or_once_less(self):
        sheet = Sheet([ANN, BOB, ANN])
        check_equal(self, False, sheet, Sheet([ANN, BOB, ANN, ANN]))
        check_equal(self, False, sheet, Sheet([ANN, BOB, BOB, ANN]))
        check_equal(self, False, sheet, Sheet([ANN, BOB]))
        check_equal(self, False, sheet, Sheet([ANN, ANN]))
        check_equal(self, False, Sheet(), Sheet([ANN]))

    def test_each_as_often(self):
        check_equal(self, False, Sheet([ANN, BOB, ANN]), Sheet([ANN, BOB, BOB]))
        check_equal(self, False, Sheet([ANN, ANN, ANN, BOB]), Sheet([ANN, ANN, BOB, BOB]))

    def test_one_otherwise_in_one_part(self):
        parts = CY.parts()
        for at, value in enumerate(("cyd", "hop", 1101, -8, 22, 41, "yard")):
            other = Deed(*parts[:at], value, *parts[at + 1:])
            check_equal(self, False, Sheet([ANN, CY]), Sheet([ANN, other]))

    def test_beside_what_is_no_sheet(self):
        for sheet in (Sheet(), Sheet([ANN]), Sheet([ANN, BOB])):
            own = sheet.all_deeds()
            for thing in anything() + [own, tuple(own), str(sheet), repr(sheet), len(sheet), ANN]:
                if not isinstance(thing, Sheet):
                    check_equal(self, False, sheet, thing)
            check_equal(self, False, sheet, unittest.mock.Mock(**{
                "all_deeds.return_value": own, "sorted_parts.return_value": [deed.parts() for deed in own]}))


class At(unittest.TestCase):

    def test_each_place(self):
        for many in (1, 2, 3, 60):
            own = deeds(many)
            sheet = Sheet(own)
            for place in range(-many, many):
                self.assertIs(sheet.at(place), own[place])
            self.assertIs(sheet.at(place=-1), own[-1])

    def test_the_same_deed_at_two_places(self):
        sheet = Sheet([ANN, BOB, ANN])
        self.assertEqual([sheet.at(place) for place in (0, 1, 2, -1, -2, -3)], [ANN, BOB, ANN, ANN, BOB, ANN])

    def assert_no_place(self, sheet, place):
        for call in (lambda: sheet.at(place), lambda: sheet.at(place=place)):
            with self.assertRaises(NoPlace) as caught:
                call()
            self.assertIs(type(caught.exception), NoPlace)
            self.assertIs(caught.exception.place, place)

    def test_beyond(self):
        for many in (0, 1, 2, 60):
            for place in (many, -many - 1, many + 1, -many - 2, 10 ** 40 - 1, 1 - 10 ** 40):
                self.assert_no_place(Sheet(deeds(many)), place)

    def test_no_number(self):
        for many in (0, 2, 60):
            for thing in but_numbers(-many, many - 1) + ["0", (0,), [0], {0: 0}, ANN]:
                self.assert_no_place(Sheet(deeds(many)), thing)


class Plus(unittest.TestCase):

    def test_a_deed_behind(self):
        for own in ([], [ANN], [BOB, ANN]):
            sheet = Sheet(own)
            for deed in (CY, ANN):
                more = sheet.plus(deed)
                self.assertIsInstance(more, Sheet)
                self.assertTrue(same(more.all_deeds(), own + [deed]))
                self.assertTrue(same(sheet.all_deeds(), own))
        self.assertTrue(same(Sheet([ANN]).plus(deed=CY).all_deeds(), [ANN, CY]))

    def test_two_of_one_sheet(self):
        sheet = Sheet([ANN])
        one, other = sheet.plus(BOB), sheet.plus(CY)
        self.assertTrue(same(one.all_deeds(), [ANN, BOB]))
        self.assertTrue(same(other.all_deeds(), [ANN, CY]))
        self.assertTrue(same(sheet.all_deeds(), [ANN]))

    def test_up_to_sixty(self):
        sheet = Sheet(deeds(59)).plus(ANN)
        self.assertEqual(len(sheet), 60)
        self.assertIs(refused(sheet.plus, BOB), NoSheet)
        self.assertIs(refused(sheet.plus, deed=ANN), NoSheet)
        self.assertTrue(same(sheet.by("event"), sheet.all_deeds()))
        self.assertEqual(len(sheet), 60)

    def test_no_deed(self):
        for many in (0, 2, 59, 60):
            sheet = Sheet(deeds(many))
            for thing in NO_DEEDS + [[ANN], (ANN,), Sheet([ANN])]:
                self.assertIs(refused(sheet.plus, thing), NoDeed, repr(thing)[:80])
                self.assertIs(refused(sheet.plus, deed=thing), NoDeed)
            self.assertEqual(len(sheet), many)


class By(unittest.TestCase):

    def test_each_word(self):
        sheet = Sheet([ANN, BOB, CY])
        for word, expected in (("time", [CY, ANN, BOB]), ("mark", [BOB, CY, ANN]),
                               ("name", [ANN, BOB, CY]), ("event", [BOB, ANN, CY])):
            self.assertTrue(same(sheet.by(word), expected), word)
            self.assertTrue(same(sheet.by(word, False), expected), word)
            self.assertTrue(same(sheet.by(backward=False, word=word), expected), word)

    def test_each_word_backward(self):
        sheet = Sheet([ANN, BOB, CY])
        for word, expected in (("time", [BOB, ANN, CY]), ("mark", [ANN, CY, BOB]),
                               ("name", [CY, BOB, ANN]), ("event", [ANN, CY, BOB])):
            self.assertTrue(same(sheet.by(word, True), expected), word)
            self.assertTrue(same(sheet.by(backward=True, word=word), expected), word)

    def test_left_out(self):
        sheet = Sheet([ANN, BOB, CY])
        self.assertTrue(same(sheet.by(), [CY, ANN, BOB]))
        self.assertTrue(same(sheet.by(backward=True), [BOB, ANN, CY]))
        self.assertTrue(same(sheet.by("mark"), [BOB, CY, ANN]))

    def test_times_by_day_then_by_hour(self):
        times = [(5, 3), (-40000, 23), (5, 0), (40000, 0), (-40000, 0), (0, 10), (0, 9), (-2, 1), (-10, 2)]
        own = [Deed("ann", "run", 9, day, hour) for day, hour in times]
        self.assertEqual([deed.time() for deed in Sheet(own).by("time")], sorted(times))
        self.assertEqual([deed.time() for deed in Sheet(own).by("time", True)], sorted(times)[::-1])

    def test_marks_as_numbers(self):
        own = [Deed("ann", "run", mark, 5) for mark in (10, 9, 10 ** 6, 1, 100)]
        self.assertEqual([deed.mark for deed in Sheet(own).by("mark")], [1, 9, 10, 100, 10 ** 6])

    def test_names_and_events_as_texts(self):
        texts = ["b", "ab", "a", "ba", "aa", "z", "abc"]
        own = [Deed(text, "run", 5, 5) for text in texts]
        self.assertEqual([deed.name for deed in Sheet(own).by("name")], sorted(texts))
        own = [Deed("ann", text, 5, 5) for text in texts]
        self.assertEqual([deed.event for deed in Sheet(own).by("event")], sorted(texts))

    def test_those_alike_stand_as_they_stand(self):
        at_high = (0, 3, 4, 9, 17)
        for word, low, high in (("time", (1, 4), (1, 5)), ("mark", 8, 9), ("name", "a", "b"), ("event", "c", "d")):
            # With the other parts rising, and falling: none of them may set the order unseen.
            for steps in (range(20), range(19, -1, -1)):
                own = [self.deed_with(word, high if at in at_high else low, step) for at, step in enumerate(steps)]
                lows = [own[at] for at in range(20) if at not in at_high]
                highs = [own[at] for at in at_high]
                self.assertTrue(same(Sheet(own).by(word), lows + highs), word)
                self.assertTrue(same(Sheet(own).by(word, True), highs + lows), word)

    def deed_with(self, word, value, step):
        """A deed whose other parts all rise with the step."""
        letter = "ghijklmnopqrstuvwxyz"[step]
        day, hour = value if word == "time" else (50 + step, step)
        return Deed(value if word == "name" else letter, value if word == "event" else letter,
                    value if word == "mark" else 1000 + step, day, hour, 50 + step, letter)

    def test_all_alike(self):
        own = [Deed("ann", "run", 9, 5, 0, wind) for wind in (3, 1, 2, -4, 9)]
        for word in WORDS:
            for backward in (False, True):
                self.assertTrue(same(Sheet(own).by(word, backward), own))

    def test_none_and_sixty(self):
        for word in WORDS:
            for backward in (False, True):
                self.assertEqual(Sheet().by(word, backward), [])
        own = deeds(60)
        self.assertTrue(same(Sheet(own[::-1]).by("mark"), own))
        self.assertTrue(same(Sheet(own).by("mark", True), own[::-1]))

    def test_no_word(self):
        others = ["day", "hour", "wind", "course", "Time", "time ", "tim", "marks", "timemark", b"time",
                  ["time"], ("time",), WORDS]
        for sheet in (Sheet(), Sheet([ANN]), Sheet([ANN, BOB, CY])):
            for thing in anything() + others:
                self.assertIs(refused(sheet.by, thing), NoWord, repr(thing)[:80])
                self.assertIs(refused(sheet.by, word=thing, backward=True), NoWord)


class Has(unittest.TestCase):

    def test_each_deed_and_an_equal_one(self):
        sheet = Sheet([ANN, BOB, CY, BOB])
        for deed in (ANN, BOB, CY):
            self.assertIs(sheet.has(deed), True)
            self.assertIs(sheet.has(thing=Deed(*deed.parts())), True)

    def test_another_deed(self):
        sheet = Sheet([ANN, CY])
        self.assertIs(sheet.has(BOB), False)
        self.assertIs(Sheet().has(ANN), False)
        parts = CY.parts()
        for at, value in enumerate(("cyd", "hop", 1101, -8, 22, 41, "yard")):
            self.assertIs(sheet.has(Deed(*parts[:at], value, *parts[at + 1:])), False)

    def test_anything(self):
        sheet = Sheet([BOB, CY])
        others = [BOB.parts(), str(BOB), repr(BOB), [BOB], (BOB,), Sheet([BOB]), sheet, unittest.mock.ANY]
        for thing in anything() + others:
            self.assertIs(sheet.has(thing), False, repr(thing)[:80])
            self.assertIs(Sheet().has(thing), False)


class Unchanged(unittest.TestCase):

    def answers(self, sheet):
        return (len(sheet), str(sheet), repr(sheet), sheet.all_deeds(), sheet.has(CY), sheet.at(0), sheet.at(-1),
                [sheet.by(word, backward) for word in WORDS for backward in (False, True)])

    def test_the_list_handed_in_changed_behind(self):
        handed = [BOB, ANN]
        sheet = Sheet(handed)
        was = self.answers(sheet)
        handed.append(CY)
        self.assertEqual(self.answers(sheet), was)
        handed[0] = CY
        self.assertEqual(self.answers(sheet), was)
        handed.clear()
        self.assertEqual(self.answers(sheet), was)
        self.assertTrue(sheet == Sheet([ANN, BOB]))

    def test_a_list_told_changed(self):
        sheet = Sheet([BOB, ANN])
        was = self.answers(sheet)
        asks = [sheet.all_deeds] + [
            lambda word=word, backward=backward: sheet.by(word, backward)
            for word in WORDS for backward in (False, True)]
        for ask in asks:
            told = ask()
            told.append(CY)
            told[0] = None
            self.assertEqual(self.answers(sheet), was)
            told.clear()
            self.assertEqual(self.answers(sheet), was)

    def test_asking_changes_nothing(self):
        sheet = Sheet([BOB, ANN, CY])
        was = self.answers(sheet)
        for call, thing in ((sheet.plus, CY), (sheet.plus, None), (sheet.at, 5), (sheet.by, "day"), (sheet.has, 7)):
            refused(call, thing)
            self.assertEqual(self.answers(sheet), was)
        for word in WORDS:
            sheet.by(word, True)
            self.assertTrue(same(sheet.all_deeds(), [BOB, ANN, CY]))


if __name__ == "__main__":
    unittest.main()
