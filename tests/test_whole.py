"""What holds over the whole program: 0.2 to 0.5."""

import inspect
import unittest

from bestsbook.book import Book
from bestsbook.deeds import Deed
from bestsbook.desk import Desk
from bestsbook.errors import (
    Gone, NoBook, NoClass, NoDay, NoDeed, NoEvent, NoEvents, NoMark, NoName, NoPerson, NoPlace, NoRules, NoSheet,
    NoText, NoWay, NoWord,
)
from bestsbook.joins import joined, merged
from bestsbook.lines import read_sheet, sheet_text, told_all
from bestsbook.marks import best_of, better, is_event
from bestsbook.people import Person
from bestsbook.rules import Rules
from bestsbook.sheets import Sheet
from tests.books import PUT, RULES, RUN, busy, empty, put, run, unmade, with_deeds
from tests.histories import history
from tests.test_interface import CLASSES, FUNCTIONS
from tests.things import anything, but_names, but_numbers, refused

SHEET = (run("ann", 60, 5), put("bob", 9, 4), run("zed", 60, 5))
# Each call of the interface: what it is called of, its name, and what is handed in, by names in their order.
CALLS = (
    (None, is_event, {"thing": RUN}),
    (None, better, {"one": 5, "other": 6, "way": "more"}),
    (None, best_of, {"marks": [5, 6], "way": "more", "default": 7}),
    (None, Rules, {"limits": (12,), "up": False, "wind": 9, "shares": False}),
    (lambda: RULES, "classes_of", {"age": 13}),
    (None, Person, {"name": "ann", "born": 5, "group": "girls", "team": "reds"}),
    (lambda: Person("ann", 5), "age_on", {"day": 800}),
    (None, Deed, {"name": "ann", "event": "run", "mark": 50, "day": 3, "hour": 4, "wind": 5, "course": "hill"}),
    (lambda: run("ann", 50, 3), "time", {}),
    (None, Sheet, {"deeds": SHEET}),
    (lambda: Sheet(SHEET), "at", {"place": 1}),
    (lambda: Sheet(SHEET), "plus", {"deed": SHEET[0]}),
    (lambda: Sheet(SHEET), "all_deeds", {}),
    (lambda: Sheet(SHEET), "by", {"word": "mark", "backward": True}),
    (lambda: Sheet(SHEET), "has", {"thing": SHEET[1]}),
    (None, Book, {"events": (PUT, RUN), "rules": RULES}),
    (empty, "enrol", {"person": Person("zed", 0)}),
    (empty, "tell", {"deed": SHEET[0], "known": 9}),
    (busy, "strike", {"number": 3, "known": 0}),
    (busy, "restore", {"number": 3, "known": 0}),
    (busy, "measure", {"course": "yard", "since": 1, "till": 2, "known": 3}),
    (busy, "uphold", {"course": "yard", "known": 40000}),
    (busy, "undo", {}),
    (busy, "twin", {}),
    (busy, "state", {"number": 1, "known": 3}),
    (busy, "stints", {"event": "run", "group": "girls", "place": 1, "known": 4}),
    (busy, "is_stints", {"thing": [], "event": "run", "group": "girls", "place": 0, "known": 4}),
    (busy, "holders", {"event": "run", "group": "boys", "place": 2, "day": 3, "known": 4}),
    (busy, "why", {"number": 1, "event": "run", "group": "boys", "place": 1, "known": 4}),
    (busy, "to_break", {"event": "put", "group": "girls", "place": 2, "day": 5, "known": 6}),
    (busy, "bests_of", {"number": 1}),
    (None, merged, {"book": busy(), "one": "girls", "other": "boys"}),
    (None, joined, {"book": busy(), "other": with_deeds(*SHEET[:2])}),
    (None, sheet_text, {"sheet": Sheet(SHEET)}),
    (None, read_sheet, {"text": sheet_text(Sheet(SHEET))}),
    (None, Desk, {}),
    (Desk, "say", {"line": "book run- - -"}),
)


def shown(thing):
    """What is seen of a thing that was told, so that two can be compared."""
    if isinstance(thing, Desk):
        return refused(thing.say, "many")
    if isinstance(thing, (list, tuple)):
        return type(thing), [shown(part) for part in thing]
    if isinstance(thing, Book):
        return thing.events, shown(thing.rules), sorted(map(str, thing.people())), shown(thing.told()), thing.papers()
    return type(thing), repr(thing)


class Calls(unittest.TestCase):

    def answer(self, source, call, values, named):
        """What a call tells, and what it leaves of the object."""
        if source is None:
            return shown(call(*values, **named))
        thing = source()
        told = shown(getattr(thing, call)(*values, **named))
        return told, shown(thing), len(unmade(thing)) if isinstance(thing, Book) else 0

    def test_by_places_and_by_names(self):
        for source, call, named in CALLS:
            expected = self.answer(source, call, tuple(named.values()), {})
            self.assertEqual(self.answer(source, call, (), named), expected, call)
            self.assertEqual(self.answer(source, call, (), dict(list(named.items())[::-1])), expected, call)
            for many in range(len(named)):
                values = tuple(named.values())[:many]
                rest = dict(list(named.items())[:many - len(named) - 1:-1])
                self.assertEqual(self.answer(source, call, values, rest), expected, call)

    def test_left_out(self):
        tried = 0
        for source, call, named in CALLS:
            taken = inspect.signature(call if source is None else getattr(source(), call)).parameters
            self.assertEqual(list(taken), list(named), call)
            optional = {name: taken[name].default for name in named if taken[name].default is not inspect.Parameter.empty}
            for name, default in optional.items():
                # That one left out, and all of them.
                for without in ([name], list(optional)):
                    less = {other: value for other, value in named.items() if other not in without}
                    full = {other: optional[other] if other in without else value for other, value in named.items()}
                    self.assertEqual(self.answer(source, call, (), less), self.answer(source, call, (), full), call)
                    tried += 1
        self.assertGreater(tried, 40)

    def test_told_all_by_places_and_by_names(self):
        named = {"book": None, "sheet": Sheet(SHEET), "known": 4}
        for values, rest, expected in (((Sheet(SHEET), 4), {}, ["NoDay", 0, "NoDay"]), ((Sheet(SHEET),), {},
                                       [0, 1, "Unknown"]), ((), named, ["NoDay", 0, "NoDay"])):
            if rest:
                for names in (("book", "sheet", "known"), ("known", "sheet", "book"), ("sheet", "known", "book")):
                    book = empty()
                    self.assertEqual(told_all(**{name: {**named, "book": book}[name] for name in names}), expected)
            else:
                self.assertEqual(told_all(empty(), *values), expected)
        self.assertEqual(told_all(sheet=Sheet(SHEET), book=empty()), [0, 1, "Unknown"])

    def test_all_of_the_interface_is_tried(self):
        tried = {call if source is not None else call.__name__ for source, call, _ in CALLS} | {"told_all"}
        wanted = {name for functions in FUNCTIONS.values() for name in functions}
        for classes in CLASSES.values():
            for name, methods in classes.items():
                wanted |= {name} | {method for method in methods if not method.startswith("__")}
        self.assertEqual(tried, wanted)


class Kinds(unittest.TestCase):
    """0.2: what a number, a name, a day, a mark are, wherever one is asked for; truths are no numbers."""

    def test_truths_are_no_numbers_anywhere(self):
        book = busy()
        for truth in (True, False):
            for expected, call, *values in (
                (NoMark, better, truth, 5), (NoMark, best_of, [truth]), (NoRules, Rules, (truth,)),
                (NoRules, Rules, (), True, truth), (NoPerson, Person, "ann", truth), (NoDeed, Deed, "a", "b", truth, 0),
                (NoDeed, Deed, "a", "b", 1, truth), (NoDeed, Deed, "a", "b", 1, 0, truth),
                (NoDeed, Deed, "a", "b", 1, 0, 0, truth), (NoPlace, Sheet(SHEET).at, truth),
                (NoDay, book.tell, run("ann", 9, 0), truth), (Gone, book.strike, truth, 5), (NoDay, book.strike, 0, truth),
                (Gone, book.restore, truth, 5), (NoDay, book.restore, 0, truth), (NoDay, book.measure, "a", truth, 5, 5),
                (NoDay, book.measure, "a", 0, truth, 5), (NoDay, book.measure, "a", 0, 5, truth),
                (NoDay, book.uphold, "a", truth), (Gone, book.state, truth), (NoDay, book.state, 0, truth),
                (NoClass, book.stints, "run", None, truth), (NoDay, book.stints, "run", None, None, truth),
                (NoClass, book.holders, "run", None, truth), (NoDay, book.holders, "run", None, None, truth),
                (NoDay, book.holders, "run", None, None, None, truth), (Gone, book.why, truth, "run"),
                (Gone, book.bests_of, truth), (NoClass, book.to_break, "run", None, truth),
            ):
                self.assertIs(refused(call, *values), expected, (call, values))

    def test_names_are_names_anywhere(self):
        book = busy()
        for thing in but_names():
            for expected, call, *values in ((NoPerson, Person, thing, 0), (NoDeed, Deed, thing, "run", 1, 0),
                                            (NoName, book.measure, thing, 1, 2, 3), (NoName, book.uphold, thing, 3),
                                            (NoName, merged, book, thing, "a"), (NoName, merged, book, "a", thing)):
                self.assertIs(refused(call, *values), expected, repr(thing)[:80])

    def test_numbers_of_forty_figures(self):
        book = busy()
        for number in (10 ** 40 - 1, 1 - 10 ** 40):
            for expected, call, *values in ((Gone, book.state, number), (NoDay, book.state, 0, number),
                                            (NoClass, book.stints, "run", None, number), (NoDay, book.uphold, "a", number)):
                self.assertIs(refused(call, *values), expected)


class Families(unittest.TestCase):
    """0.4: what is caught by the heads."""

    def test_by_the_heads(self):
        book = busy()
        for head, call, *values in (
            (ValueError, better, 0, 5), (ValueError, better, 1, 5, "x"), (ValueError, Book, ()), (ValueError, book.enrol, 7),
            (ValueError, book.tell, 7), (ValueError, book.strike, 0, None), (ValueError, book.measure, "", 1, 2, 3),
            (ValueError, Book((RUN,)).undo), (ValueError, merged, None, "a", "b"), (ValueError, read_sheet, ""),
            (ValueError, Desk().say, ""), (ValueError, Desk().say, "many"), (ValueError, book.stints, "run", ""),
            (KeyError, book.tell, run("zed", 9, 9)), (KeyError, book.stints, "hop"), (KeyError, book.state, 99),
            (IndexError, Sheet().at, 0),
        ):
            self.assertRaises(head, call, *values)


class TheFirstRefusal(unittest.TestCase):
    """0.4: of several the first, by the order of the names, each by itself."""

    def test_of_all_at_once(self):
        book = busy()
        for thing in (None, True, "", "Ann", 10 ** 40 - 1, [], {}, (1, 2), Sheet(), Desk()):
            for expected, call, many in (
                (NoMark, better, 3), (NoPerson, Person, 4), (NoDeed, Deed, 7), (NoEvents, Book, 2), (NoDeed, book.tell, 2),
                (Gone, book.strike, 2), (Gone, book.restore, 2), (NoName, book.measure, 4), (NoName, book.uphold, 2),
                (Gone, book.state, 2), (NoEvent, book.stints, 4), (NoEvent, book.is_stints, 5), (NoEvent, book.holders, 5),
                (Gone, book.why, 5), (NoEvent, book.to_break, 5), (Gone, book.bests_of, 1), (NoBook, merged, 3),
                (NoBook, joined, 2), (NoBook, told_all, 3),
            ):
                self.assertIs(refused(call, *[thing] * many), expected, (call, thing))
            for expected, call in ((NoSheet, sheet_text), (NoWord, Sheet().by), (NoDeed, Sheet().plus)):
                if not isinstance(thing, Sheet):
                    self.assertIs(refused(call, thing), expected, (call, thing))
        self.assertTrue(book == busy())
        self.assertIs(refused(better, 1, 2, None), NoWay)
        self.assertIs(refused(read_sheet, None), NoText)

    def test_each_that_is_good_gives_way_to_the_next(self):
        book = busy()
        for good, wrong, call in (
            (("run", "girls", 1, 3, 3), (NoEvent, NoName, NoClass, NoDay, NoDay), book.holders),
            (("put", "boys", 0, 9, 9), (NoEvent, NoName, NoClass, NoDay, NoDay), book.to_break),
            (("run", "girls", 1, 3), (NoEvent, NoName, NoClass, NoDay), book.stints),
            ((0, "run", "girls", 1, 3), (Gone, NoEvent, NoName, NoClass, NoDay), book.why),
            ((0, 3), (Gone, NoDay), book.state), ((0, 3), (Gone, NoDay), book.strike), ((0, 3), (Gone, NoDay), book.restore),
            (("yard", 1, 2, 3), (NoName, NoDay, NoDay, NoDay), book.measure), (("yard", 3), (NoName, NoDay), book.uphold),
            ((book, "girls", "boys"), (NoBook, NoName, NoName), merged), ((book, book), (NoBook, NoBook), joined),
        ):
            for at, expected in enumerate(wrong):
                values = good[:at] + (True,) * (len(good) - at)
                self.assertIs(refused(call, *values), expected, (call, at))
                values = good[:at] + (True,) + good[at + 1:]
                self.assertIs(refused(call, *values), expected, (call, at))

    def test_none_stands_where_it_may(self):
        book = busy()
        for call, *values in ((book.state, 0, None), (book.stints, "run", None, None, None),
                              (book.holders, "run", None, None, None, None), (book.why, 0, "run", None, None, None),
                              (book.to_break, "run", None, None, None, None), (book.is_stints, None, "run", None, None, None),
                              (Book, (RUN,), None), (Sheet, None), (Rules, None)):
            self.assertIsNone(refused(call, *values))


class Rising(unittest.TestCase):
    """0.5: tuples and lists that are to rise."""

    def assert_rising(self, things):
        for ahead, behind in zip(things, things[1:]):
            self.assertLess(ahead, behind)

    def test_what_is_told(self):
        held = set()
        for seed in range(30):
            book, _ = history(seed)
            for number in range(len(book)):
                self.assert_rising(book.bests_of(number))
            for event in ("run", "put"):
                for known in (None, 3, 5, 7):
                    names = (book.holders(event, None, None, None, known) or (0, ()))[1]
                    self.assert_rising(names)
                    held.add(len(names))
            self.assert_rising(joined(book, history(seed)[0])[1])
        self.assertTrue({1, 2, 3} <= held)

    def test_of_anything_no_call_fails_otherwise(self):
        # Nothing but the refusals of the program, whatever is handed in.
        book = busy()
        for thing in anything():
            for call, *values in ((book.state, 0, thing), (book.stints, "run", thing), (book.stints, "run", None, thing),
                                  (book.stints, thing), (book.is_stints, thing, "run"), (book.tell, thing),
                                  (book.enrol, thing), (read_sheet, thing), (Desk().say, thing), (joined, book, thing)):
                kind = refused(call, *values)
                self.assertTrue(kind is None or kind.__module__ == "bestsbook.errors", (call, thing))

    def test_numbers_that_are_none(self):
        for thing in but_numbers(0, 5):
            self.assertIs(refused(busy().bests_of, thing), Gone)


if __name__ == "__main__":
    unittest.main()
