"""Bests: who counts for them, their stints and holders, why, what would break them: 6.3 to 6.6."""

import copy
import unittest

from bestsbook.book import Book
from bestsbook.deeds import Deed
from bestsbook.errors import Gone, NoClass, NoDay, NoEvent, NoName
from bestsbook.people import Person
from bestsbook.rules import Rules
from tests.books import HOP, PUT, ROW, RULES, RUN, answers, bests, busy, empty, full, put, run, with_deeds
from tests.things import anything, but_days, but_names, but_numbers, refusal


def open_book(shares=True, events=(RUN, PUT)):
    """A book of four people born long ago, without age classes."""
    book = Book(events, Rules((), True, 20, shares))
    for name, group in (("ann", "girls"), ("bob", "boys"), ("cy", "boys"), ("dee", "girls")):
        book.enrol(Person(name, -10000, group))
    return book


def told(book, *deeds):
    """The book, told the deeds."""
    for deed in deeds:
        book.tell(deed)
    return book


class Asked(unittest.TestCase):
    """6.3: what a best is asked by."""

    def asks(self, book):
        """All that ask for a best, each as a call of event, group, place and what else is named."""
        return [
            lambda *best, **named: book.stints(*best, **named),
            lambda *best, **named: book.is_stints([], *best, **named),
            lambda *best, **named: book.holders(*best, **named),
            lambda *best, **named: book.why(0, *best, **named),
            lambda *best, **named: book.to_break(*best, **named),
        ]

    def test_no_event(self):
        others = ["hop", "ru", "runs", "Run", "less", "ann", ["run"], ("run",), RUN, b"run", 0]
        for ask in self.asks(busy()):
            for thing in anything() + others:
                for best in ((thing,), (thing, "girls", 1), (thing, "Girls", 99), (thing, None, True)):
                    self.assertEqual(refusal(ask, *best), (NoEvent, thing), repr(thing)[:80])
                self.assertEqual(refusal(ask, event=thing, group="girls", place=0), (NoEvent, thing))
                self.assertEqual(refusal(ask, thing, known="x"), (NoEvent, thing))

    def test_the_thing_asked_is_the_very_thing(self):
        for thing in anything():
            with self.assertRaises(NoEvent) as caught:
                busy().stints(thing)
            self.assertIs(caught.exception.asked, thing)

    def test_no_group(self):
        for ask in self.asks(busy()):
            for thing in but_names():
                if thing is None:
                    continue
                for best in (("run", thing), ("put", thing, 1), ("run", thing, 99), ("run", thing, "x")):
                    self.assertEqual(refusal(ask, *best), (NoName, None), repr(thing)[:80])
                self.assertEqual(refusal(ask, "run", known=40001, group=thing), (NoName, None))

    def test_no_class(self):
        for limits in ((), (12, 16), (5, 6, 7, 8)):
            many = len(limits) + 1
            book = empty(Rules(limits))
            book.tell(run("ann", 50, 3))
            for ask in self.asks(book):
                for place in (None, *range(many)):
                    self.assertIsNone(refusal(ask, "run", None, place))
                for thing in but_numbers(0, many - 1) + [many, -1, -many, many + 1]:
                    if thing is None:
                        continue
                    self.assertEqual(refusal(ask, "run", None, thing), (NoClass, None), repr(thing)[:80])
                    self.assertEqual(refusal(ask, "run", place=thing, known=40001), (NoClass, None))

    def test_known_is_no_day(self):
        for ask in self.asks(busy()):
            for thing in but_days():
                if thing is not None:
                    self.assertEqual(refusal(ask, "run", known=thing), (NoDay, None), repr(thing)[:80])
        for thing in but_days():
            if thing is not None:
                self.assertEqual(refusal(busy().stints, "run", None, None, thing), (NoDay, None))
                self.assertEqual(refusal(busy().is_stints, [], "run", None, None, thing), (NoDay, None))
                self.assertEqual(refusal(busy().why, 0, "run", None, None, thing), (NoDay, None))
                for call in (busy().holders, busy().to_break):
                    self.assertEqual(refusal(call, "run", None, None, thing), (NoDay, None))
                    self.assertEqual(refusal(call, "run", None, None, None, thing), (NoDay, None))
                    self.assertEqual(refusal(call, "run", None, None, 3, thing), (NoDay, None))
                    self.assertEqual(refusal(call, "run", day=thing), (NoDay, None))
                    self.assertEqual(refusal(call, "run", day=thing, known=40001), (NoDay, None))

    def test_of_a_number_that_is_none(self):
        for many in (0, 1, 4, 100):
            book = full(many)
            for thing in but_numbers(0, many - 1) + [many, -1]:
                for best in (("run",), ("hop",), ("run", "Girls"), ("run", None, 99), ("run", None, None, 40001)):
                    self.assertEqual(refusal(book.why, thing, *best), (Gone, thing), repr(thing)[:80])
                self.assertEqual(refusal(book.bests_of, thing), (Gone, thing))
                self.assertEqual(refusal(book.bests_of, number=thing), (Gone, thing))

    def test_the_first_refusal_of_several(self):
        book = busy()
        for call, ahead in ((book.stints, ()), (book.is_stints, (7,)), (book.holders, ()), (book.why, (0,)),
                            (book.to_break, ())):
            self.assertEqual(refusal(call, *ahead, "hop", "", -1), (NoEvent, "hop"))
            self.assertEqual(refusal(call, *ahead, "run", "", -1), (NoName, None))
            self.assertEqual(refusal(call, *ahead, "run", "open", -1, known="x"), (NoClass, None))
            self.assertEqual(refusal(call, *ahead, "run", "open", True, known=True), (NoClass, None))
            self.assertEqual(refusal(call, *ahead, "run", "open", 0, known=True), (NoDay, None))
        self.assertEqual(refusal(book.why, 6, "hop", "", -1, True), (Gone, 6))

    def test_asking_what_is_refused_changes_nothing(self):
        book = busy()
        for ask in self.asks(book):
            for best in (("hop",), ("run", ""), ("run", None, 3)):
                refusal(ask, *best)
        self.assertTrue(book == busy())
        self.assertEqual(answers(book), answers(busy()))


class Counting(unittest.TestCase):
    """6.3: which deeds count for a best."""

    def numbers(self, book, *best, **named):
        return [stint[0] for stint in book.stints(*best, **named)]

    def test_events(self):
        book = told(open_book(events=(RUN, PUT, HOP, ROW)), Deed("ann", "put", 5, 3), Deed("ann", "run", 5, 3),
                    Deed("ann", "row", 5, 3), Deed("ann", "hop", 5, 3), Deed("ann", "put", 6, 4))
        self.assertEqual([self.numbers(book, event) for event in ("run", "put", "hop", "row")],
                         [[1], [0, 4], [3], [2]])

    def test_groups(self):
        book = told(open_book(), run("ann", 50, 1), run("bob", 49, 2), run("dee", 48, 3), run("cy", 47, 4))
        self.assertEqual(self.numbers(book, "run"), [0, 1, 2, 3])
        self.assertEqual(self.numbers(book, "run", None), [0, 1, 2, 3])
        self.assertEqual(self.numbers(book, "run", "girls"), [0, 2])
        self.assertEqual(self.numbers(book, "run", "boys"), [1, 3])
        for group in ("open", "girl", "girlss", "ann", "abcdefgh"):
            self.assertEqual(self.numbers(book, "run", group), [])

    def test_ages_at_the_limits(self):
        for up in (True, False):
            for age in (0, 1, 11, 12, 13, 15, 16, 17, 100):
                book = Book((RUN,), Rules((12, 16), up))
                for name, born in (("ann", -365 * age), ("bob", -365 * age - 364)):
                    book.enrol(Person(name, born))
                    book.tell(run(name, 50, 0))
                for name, born in (("cy", -365 * age + 1), ("dee", -365 * age - 365)):
                    book.enrol(Person(name, born))
                    if born <= 0:
                        book.tell(run(name, 50, 0))
                for place in (0, 1, 2):
                    counting = []
                    for number, years in enumerate([age, age, age - 1, age + 1] if age else [age, age, age + 1]):
                        own = 0 if years < 12 else 1 if years < 16 else 2
                        if place == own or up and place > own:
                            counting.append(number)
                    self.assertEqual(self.numbers(book, "run", None, place), counting, (up, age, place))
                self.assertEqual(self.numbers(book, "run"), self.numbers(book, "run", None, 2))
                self.assertEqual(self.numbers(book, "run", place=None), self.numbers(book, "run", place=2))

    def test_the_age_on_the_day_of_the_deed(self):
        book = Book((RUN,), Rules((12,), False))
        book.enrol(Person("ann", 0))
        told(book, run("ann", 50, 0), run("ann", 49, 12 * 365 - 1), run("ann", 48, 12 * 365), run("ann", 47, 40000))
        self.assertEqual(self.numbers(book, "run", None, 0), [0, 1])
        self.assertEqual(self.numbers(book, "run", None, 1), [2, 3])
        self.assertEqual(self.numbers(book, "run"), [2, 3])

    def test_with_up_a_deed_counts_in_the_classes_behind(self):
        book = Book((RUN,), Rules((12, 16), True))
        for name, years in (("ann", 11), ("bob", 12), ("cy", 16)):
            book.enrol(Person(name, -years * 365))
        told(book, run("cy", 50, 0, 1), run("bob", 49, 0, 2), run("ann", 48, 0, 3))
        self.assertEqual(self.numbers(book, "run", None, 0), [2])
        self.assertEqual(self.numbers(book, "run", None, 1), [1, 2])
        self.assertEqual(self.numbers(book, "run", None, 2), [0, 1, 2])
        self.assertEqual(self.numbers(book, "run"), [0, 1, 2])

    def test_without_limits_all_are_of_one_class(self):
        book = told(open_book(), run("ann", 50, 3))
        self.assertEqual(self.numbers(book, "run", None, 0), [0])
        self.assertEqual(self.numbers(book, "run"), [0])

    def test_the_longest_life(self):
        book = Book((RUN,), Rules((99,), False))
        book.enrol(Person("ann", -40000))
        told(book, run("ann", 50, 40000))
        self.assertEqual(self.numbers(book, "run", None, 1), [0])
        self.assertEqual(self.numbers(book, "run", None, 0), [])

    def test_all_three_at_once(self):
        book = with_deeds(run("ann", 50, 3, 1), run("bob", 49, 3, 2), run("cy", 48, 3, 3), run("dee", 47, 3, 4))
        self.assertEqual(self.numbers(book, "run", "girls", 0), [3])
        self.assertEqual(self.numbers(book, "run", "girls", 1), [0, 3])
        self.assertEqual(self.numbers(book, "run", "boys", 0), [2])
        self.assertEqual(self.numbers(book, "run", "boys", 2), [1, 2])
        self.assertEqual(self.numbers(book, "put", "boys", 2), [])

    def test_good_deeds_alone(self):
        book = told(open_book(), run("ann", 50, 1), run("ann", 40, 2), run("ann", 30, 3, 0, 21),
                    run("ann", 35, 4, 0, 0, "hill"), run("ann", 45, 5))
        book.strike(1, 6)
        book.measure("hill", 4, 4, 7)
        self.assertEqual(self.numbers(book, "run"), [0, 4])
        self.assertEqual([self.numbers(book, "run", None, None, known) for known in (0, 1, 2, 4, 5, 6, 7)],
                         [[], [0], [0, 1], [0, 1, 3], [0, 1, 3], [0, 3], [0, 4]])


class Stints(unittest.TestCase):
    """6.4: the list of stints."""

    def test_none(self):
        self.assertEqual(open_book().stints("run"), [])
        self.assertIs(type(open_book().stints("run")), list)
        self.assertEqual(told(open_book(), put("ann", 5, 3)).stints("run"), [])

    def test_one(self):
        book = told(open_book(), run("ann", 50, 3, 7))
        self.assertEqual(book.stints("run"), [(0, "ann", 50, (3, 7), None)])

    def test_each_better_one_ends_those_ahead(self):
        book = told(open_book(), run("ann", 50, 1, 3), run("bob", 51, 2), run("cy", 48, 2, 9), run("dee", 49, 3),
                    run("ann", 47, 5, 1))
        self.assertEqual(book.stints("run"), [
            (0, "ann", 50, (1, 3), (2, 9)), (2, "cy", 48, (2, 9), (5, 1)), (4, "ann", 47, (5, 1), None)])

    def test_the_way_more(self):
        book = told(open_book(), put("ann", 50, 1, 3), put("bob", 51, 2), put("cy", 48, 2, 9), put("dee", 49, 3),
                    put("ann", 60, 5, 1))
        self.assertEqual(book.stints("put"), [
            (0, "ann", 50, (1, 3), (2, 0)), (1, "bob", 51, (2, 0), (5, 1)), (4, "ann", 60, (5, 1), None)])

    def test_the_way_of_each_event(self):
        book = told(open_book(events=(PUT, ROW)), put("ann", 5, 1), put("ann", 4, 2), put("ann", 6, 3),
                    *[Deed("ann", "row", mark, day) for day, mark in ((1, 5), (2, 4), (3, 6))])
        self.assertEqual([stint[0] for stint in book.stints("put")], [0, 2])
        self.assertEqual([stint[0] for stint in book.stints("row")], [3, 4])

    def test_ones_own_best_bettered(self):
        book = told(open_book(), run("ann", 50, 1), run("ann", 49, 2), run("ann", 49, 3), run("ann", 48, 3))
        self.assertEqual(book.stints("run"), [
            (0, "ann", 50, (1, 0), (2, 0)), (1, "ann", 49, (2, 0), (3, 0)), (3, "ann", 48, (3, 0), None)])

    def test_told_in_whatever_order(self):
        deeds = [run("ann", 50, 1, 3), run("bob", 51, 2), run("cy", 48, 2, 9), run("dee", 48, 3), run("ann", 47, 5, 1)]
        for order in ((4, 3, 2, 1, 0), (2, 0, 4, 1, 3), (1, 4, 0, 3, 2)):
            book = told(open_book(), *[deeds[at] for at in order])
            number = {at: number for number, at in enumerate(order)}
            self.assertEqual(book.stints("run"), [
                (number[0], "ann", 50, (1, 3), (2, 9)), (number[2], "cy", 48, (2, 9), (5, 1)),
                (number[3], "dee", 48, (3, 0), (5, 1)), (number[4], "ann", 47, (5, 1), None)])

    def test_days_as_numbers_then_hours(self):
        book = told(open_book(), run("ann", 50, 10, 2), run("bob", 49, 9, 10), run("cy", 48, -2, 5), run("dee", 47, 9, 9),
                    run("ann", 46, -10, 23))
        self.assertEqual([stint[0] for stint in book.stints("run")], [4])
        book = told(open_book(), run("ann", 40, 10, 2), run("bob", 41, 9, 10), run("cy", 43, -2, 5),
                    run("dee", 42, 9, 9), run("ann", 44, -10, 23))
        self.assertEqual([stint[0] for stint in book.stints("run")], [4, 2, 3, 1, 0])

    def test_of_one_time_by_their_numbers(self):
        book = told(open_book(), run("ann", 50, 3, 7), run("bob", 48, 3, 7), run("cy", 49, 3, 7), run("dee", 47, 3, 7))
        self.assertEqual(book.stints("run"), [
            (0, "ann", 50, (3, 7), (3, 7)), (1, "bob", 48, (3, 7), (3, 7)), (3, "dee", 47, (3, 7), None)])
        book = told(open_book(), run("dee", 47, 3, 7), run("ann", 50, 3, 7), run("bob", 47, 3, 7), run("cy", 49, 3, 7))
        self.assertEqual(book.stints("run"), [(0, "dee", 47, (3, 7), None), (2, "bob", 47, (3, 7), None)])

    def test_of_one_time_with_more_than_nine_numbers(self):
        book = told(open_book(), *[run("ann", 50 - number, 3) for number in range(12)])
        self.assertEqual([stint[0] for stint in book.stints("run")], list(range(12)))

    def test_the_same_mark_by_somebody_else(self):
        deeds = [run("ann", 50, 1), run("bob", 50, 2), run("cy", 50, 2, 1), run("dee", 49, 4), run("ann", 49, 4)]
        self.assertEqual(told(open_book(True), *deeds).stints("run"), [
            (0, "ann", 50, (1, 0), (4, 0)), (1, "bob", 50, (2, 0), (4, 0)), (2, "cy", 50, (2, 1), (4, 0)),
            (3, "dee", 49, (4, 0), None), (4, "ann", 49, (4, 0), None)])
        self.assertEqual(told(open_book(False), *deeds).stints("run"), [
            (0, "ann", 50, (1, 0), (4, 0)), (3, "dee", 49, (4, 0), None)])

    def test_the_same_mark_the_way_more(self):
        deeds = [put("ann", 50, 1), put("bob", 50, 2), put("bob", 49, 3), put("cy", 51, 4)]
        self.assertEqual(told(open_book(True), *deeds).stints("put"), [
            (0, "ann", 50, (1, 0), (4, 0)), (1, "bob", 50, (2, 0), (4, 0)), (3, "cy", 51, (4, 0), None)])
        self.assertEqual(told(open_book(False), *deeds).stints("put"), [
            (0, "ann", 50, (1, 0), (4, 0)), (3, "cy", 51, (4, 0), None)])

    def test_the_same_mark_by_one_who_holds_it(self):
        deeds = [run("ann", 50, 1), run("ann", 50, 2), run("bob", 50, 3), run("ann", 50, 4), run("bob", 50, 4)]
        self.assertEqual(told(open_book(True), *deeds).stints("run"), [
            (0, "ann", 50, (1, 0), None), (2, "bob", 50, (3, 0), None)])
        self.assertEqual(told(open_book(False), *deeds).stints("run"), [(0, "ann", 50, (1, 0), None)])

    def test_the_same_mark_by_one_who_held_another_one(self):
        deeds = [run("ann", 50, 1), run("bob", 49, 2), run("ann", 49, 3), run("ann", 50, 4)]
        self.assertEqual(told(open_book(True), *deeds).stints("run"), [
            (0, "ann", 50, (1, 0), (2, 0)), (1, "bob", 49, (2, 0), None), (2, "ann", 49, (3, 0), None)])
        self.assertEqual(told(open_book(False), *deeds).stints("run"), [
            (0, "ann", 50, (1, 0), (2, 0)), (1, "bob", 49, (2, 0), None)])

    def test_the_same_mark_by_a_third_one_and_by_the_first_one_again(self):
        deeds = [run("ann", 50, 1), run("bob", 50, 2), run("cy", 50, 3), run("ann", 50, 5), run("bob", 50, 6)]
        self.assertEqual([stint[:2] for stint in told(open_book(True), *deeds).stints("run")],
                         [(0, "ann"), (1, "bob"), (2, "cy")])

    def test_marks_at_the_bounds(self):
        book = told(open_book(), run("ann", 10 ** 6, 1), run("bob", 1, 2), run("cy", 1, 3), put("ann", 1, 1),
                    put("bob", 10 ** 6, 2))
        self.assertEqual([stint[0] for stint in book.stints("run")], [0, 1, 2])
        self.assertEqual([stint[0] for stint in book.stints("put")], [3, 4])

    def test_as_known_on_a_day(self):
        book = open_book()
        book.tell(run("ann", 50, 1))
        book.tell(run("bob", 48, 2), 6)
        book.tell(run("cy", 49, 3))
        book.strike(2, 5)
        self.assertEqual(book.stints("run", None, None, 0), [])
        self.assertEqual(book.stints("run", None, None, 2), [(0, "ann", 50, (1, 0), None)])
        self.assertEqual(book.stints("run", known=3), [(0, "ann", 50, (1, 0), (3, 0)), (2, "cy", 49, (3, 0), None)])
        self.assertEqual(book.stints("run", known=5), [(0, "ann", 50, (1, 0), None)])
        self.assertEqual(book.stints("run", known=6), [(0, "ann", 50, (1, 0), (2, 0)), (1, "bob", 48, (2, 0), None)])
        self.assertEqual(book.stints("run"), book.stints("run", known=40000))
        self.assertEqual(book.stints("run"), book.stints("run", known=6))

    def test_a_deed_known_late_was_done_when_it_was_done(self):
        book = open_book()
        book.tell(run("ann", 50, 5))
        book.tell(run("bob", 50, 4), 9)
        self.assertEqual(book.stints("run"), [(1, "bob", 50, (4, 0), None), (0, "ann", 50, (5, 0), None)])
        self.assertEqual(book.stints("run", known=8), [(0, "ann", 50, (5, 0), None)])

    def test_by_place_and_by_name(self):
        book = busy()
        for event, group, place in bests(book):
            for known in (None, 0, 3, 6, 40000):
                one = book.stints(event, group, place, known)
                self.assertEqual(book.stints(known=known, place=place, group=group, event=event), one)
                self.assertEqual(book.stints(event, known=known, group=group, place=place), one)
        self.assertEqual(book.stints("run"), book.stints("run", None, None, None))
        self.assertEqual(book.stints("run", "boys"), book.stints("run", "boys", 2, 40000))

    def test_numbers_and_times_as_they_are_to_be(self):
        for number, name, mark, since, till in busy().stints("run") + busy().stints("put"):
            self.assertIs(type(number), int)
            self.assertIs(type(name), str)
            self.assertIs(type(mark), int)
            self.assertIs(type(since), tuple)
            self.assertIn(type(till), (tuple, type(None)))

    def test_a_list_told_and_changed_is_told_anew(self):
        book = busy()
        was = copy.deepcopy(book.stints("run"))
        for change in (list.clear, list.pop, list.reverse, lambda stints: stints.append(7)):
            stints = book.stints("run")
            change(stints)
            self.assertEqual(book.stints("run"), was)
            self.assertIs(book.is_stints(stints, "run"), stints == was)
            self.assertIs(book.is_stints(was, "run"), True)


class IsStints(unittest.TestCase):
    """6.4: whether a thing is this list."""

    def book(self):
        """Stints whose numbers, marks, days and hours are partly those that truths equal."""
        book = told(open_book(), run("ann", 2, 0, 0), run("bob", 1, 1, 1), run("cy", 1, 1, 1), put("dee", 1, 0, 1),
                    put("dee", 5, 5, 5))
        self.assertEqual(book.stints("run"), [
            (0, "ann", 2, (0, 0), (1, 1)), (1, "bob", 1, (1, 1), None), (2, "cy", 1, (1, 1), None)])
        self.assertEqual(book.stints("put"), [(3, "dee", 1, (0, 1), (5, 5)), (4, "dee", 5, (5, 5), None)])
        return book

    def test_the_very_list(self):
        for book in (self.book(), busy(), empty(), open_book()):
            for best in bests(book):
                for known in (None, 0, 1, 3, 5, 40000):
                    stints = book.stints(*best, known)
                    self.assertIs(book.is_stints(stints, *best, known), True)
                    self.assertIs(book.is_stints(copy.deepcopy(stints), *best, known=known), True)
                    self.assertIs(book.is_stints(known=known, place=best[2], group=best[1], event=best[0],
                                                 thing=stints), True)

    def test_that_of_another_best(self):
        book = self.book()
        self.assertIs(book.is_stints(book.stints("run"), "put"), False)
        self.assertIs(book.is_stints(book.stints("run"), "run", "girls"), False)
        self.assertIs(book.is_stints(book.stints("run", "girls"), "run", "girls"), True)
        self.assertIs(book.is_stints(book.stints("run"), "run", None, 0, 0), False)
        self.assertIs(book.is_stints([], "run", "open"), True)
        self.assertIs(book.is_stints([], "run"), False)

    def changed(self, thing):
        """Whatever a thing may be changed to, at any one place of it."""
        told = [None, True, False, 7, -1, "", "ann", "x", [], (), {}, [thing], (thing,), {0: thing}]
        if isinstance(thing, (list, tuple)):
            kind = type(thing)
            parts = list(thing)
            told += [list(parts), tuple(parts), dict(enumerate(parts))]
            for at, part in enumerate(parts):
                for other in self.changed(part):
                    told.append(kind(parts[:at] + [other] + parts[at + 1:]))
                told.append(kind(parts[:at] + parts[at + 1:]))
                told.append(kind(parts[:at] + [part, part] + parts[at + 1:]))
            for at in range(1, len(parts)):
                told.append(kind(parts[:at - 1] + [parts[at], parts[at - 1]] + parts[at + 1:]))
            told.append(kind(parts + [None]))
            told.append(kind([None] + parts))
        elif isinstance(thing, str):
            told += [thing + "x", thing[1:], thing.upper(), [thing]]
        elif thing is not None:
            told += [thing + 1, thing - 1, -thing, str(thing)]
        return told

    def test_something_otherwise(self):
        book = self.book()
        for event in ("run", "put"):
            stints = book.stints(event)
            same = 0
            for thing in self.changed(stints):
                # repr tells truths from numbers, and tuples from lists.
                expected = repr(thing) == repr(stints)
                same += expected
                self.assertIs(book.is_stints(thing, event), expected, repr(thing)[:300])
            self.assertGreater(same, 0)

    def test_truths_for_numbers(self):
        book = self.book()
        for stints in (
            [(False, "ann", 2, (0, 0), (1, 1)), (1, "bob", 1, (1, 1), None), (2, "cy", 1, (1, 1), None)],
            [(0, "ann", 2, (0, 0), (1, 1)), (True, "bob", 1, (1, 1), None), (2, "cy", 1, (1, 1), None)],
            [(0, "ann", 2, (0, 0), (1, 1)), (1, "bob", True, (1, 1), None), (2, "cy", 1, (1, 1), None)],
            [(0, "ann", 2, (False, 0), (1, 1)), (1, "bob", 1, (1, 1), None), (2, "cy", 1, (1, 1), None)],
            [(0, "ann", 2, (0, False), (1, 1)), (1, "bob", 1, (1, 1), None), (2, "cy", 1, (1, 1), None)],
            [(0, "ann", 2, (0, 0), (1, True)), (1, "bob", 1, (1, 1), None), (2, "cy", 1, (1, 1), None)],
        ):
            self.assertTrue(stints == book.stints("run"))
            self.assertIs(book.is_stints(stints, "run"), False)

    def test_anything(self):
        for book in (self.book(), busy()):
            for best in bests(book):
                stints = book.stints(*best)
                for thing in anything() + [tuple(stints), {0: stints}, [stints], (stints,), str(stints), dict.fromkeys(
                        stints), [list(stint) for stint in stints], book, stints + stints, stints + [()]]:
                    if not (isinstance(thing, list) and thing == stints):
                        self.assertIs(book.is_stints(thing, *best), False, repr(thing)[:80])

    def test_what_is_handed_in_is_as_it_was(self):
        book = self.book()
        thing = book.stints("run")
        was = copy.deepcopy(thing)
        book.is_stints(thing, "run")
        book.is_stints(thing, "put")
        self.assertEqual(thing, was)


class Holders(unittest.TestCase):
    """6.5: who holds a best at the end of a day."""

    def test_nobody(self):
        book = told(open_book(), run("ann", 50, 3))
        for values in (("put",), ("run", "boys"), ("run", None, None, 2), ("run", None, None, 5, 2)):
            self.assertIsNone(book.holders(*values))
        self.assertEqual(book.holders("run"), (50, ("ann",)))

    def test_the_end_of_a_day_on_which_it_turned(self):
        book = told(open_book(), run("ann", 50, 3), run("bob", 49, 5, 23), run("cy", 48, 5, 23), run("dee", 47, 8, 0))
        expected = {2: None, 3: (50, ("ann",)), 4: (50, ("ann",)), 5: (48, ("cy",)), 7: (48, ("cy",)),
                    8: (47, ("dee",)), 40000: (47, ("dee",)), -40000: None, None: (47, ("dee",))}
        for day, held in expected.items():
            self.assertEqual(book.holders("run", None, None, day), held, day)
            self.assertEqual(book.holders("run", day=day), held)

    def test_the_way_more(self):
        book = told(open_book(), put("ann", 50, 3), put("bob", 49, 4), put("cy", 51, 5))
        self.assertEqual([book.holders("put", day=day) for day in (2, 3, 4, 5)],
                         [None, (50, ("ann",)), (50, ("ann",)), (51, ("cy",))])

    def test_names_shared_and_rising(self):
        deeds = [run("dee", 50, 1), run("bob", 50, 2), run("dee", 50, 2), run("cy", 50, 3, 1), run("ann", 50, 3, 2)]
        book = told(open_book(True), *deeds)
        self.assertEqual([book.holders("run", day=day) for day in (0, 1, 2, 3)],
                         [None, (50, ("dee",)), (50, ("bob", "dee")), (50, ("ann", "bob", "cy", "dee"))])
        self.assertEqual(book.holders("run", "girls"), (50, ("ann", "dee")))
        book = told(open_book(False), *deeds)
        self.assertEqual([book.holders("run", day=day) for day in (0, 1, 2, 3, None)],
                         [None] + [(50, ("dee",))] * 4)

    def test_a_better_one_ends_the_sharing(self):
        book = told(open_book(), run("dee", 50, 1), run("bob", 50, 1), run("cy", 49, 2), run("dee", 49, 3))
        self.assertEqual([book.holders("run", day=day) for day in (1, 2, 3)],
                         [(50, ("bob", "dee")), (49, ("cy",)), (49, ("cy", "dee"))])

    def test_as_known(self):
        book = open_book()
        book.tell(run("ann", 50, 3))
        book.tell(run("bob", 49, 4), 8)
        book.strike(0, 6)
        for day, known, held in ((None, 3, (50, ("ann",))), (None, 5, (50, ("ann",))), (None, 6, None),
                                 (None, 7, None), (None, 8, (49, ("bob",))), (3, 8, None), (4, 8, (49, ("bob",))),
                                 (3, 5, (50, ("ann",))), (2, 5, None), (None, 2, None), (40000, 40000, (49, ("bob",)))):
            self.assertEqual(book.holders("run", None, None, day, known), held, (day, known))
            self.assertEqual(book.holders(known=known, day=day, event="run"), held)

    def test_of_groups_and_classes(self):
        book = with_deeds(run("ann", 50, 3), run("bob", 49, 3), run("cy", 51, 3), run("dee", 52, 3))
        for group, place, held in ((None, None, (49, ("bob",))), (None, 2, (49, ("bob",))), (None, 1, (50, ("ann",))),
                                   (None, 0, (51, ("cy",))), ("girls", 0, (52, ("dee",))), ("boys", 1, (51, ("cy",))),
                                   ("girls", 2, (50, ("ann",))), ("open", 2, None)):
            self.assertEqual(book.holders("run", group, place), held)

    def test_kinds(self):
        held = told(open_book(), run("ann", 50, 3)).holders("run")
        self.assertIs(type(held), tuple)
        self.assertIs(type(held[1]), tuple)

    def test_that_of_the_deeds_up_to_the_day(self):
        book = busy()
        for best in bests(book):
            for day in range(-1, 12):
                up_to = Book(book.events, book.rules)
                for person in book.people():
                    up_to.enrol(person)
                for number, (deed, _) in enumerate(book.told()):
                    if deed.day <= day and book.state(number) == "good":
                        up_to.tell(deed)
                self.assertEqual(book.holders(*best, day), up_to.holders(*best))


class Why(unittest.TestCase):
    """6.5: why a deed is a best or none."""

    def test_the_words_of_state(self):
        book = open_book()
        book.tell(run("ann", 50, 3), 5)
        book.tell(run("bob", 40, 3, 0, 21))
        book.tell(run("cy", 30, 3, 0, 0, "hill"))
        book.tell(run("dee", 20, 3))
        book.strike(3, 4)
        book.measure("hill", 3, 3, 4)
        self.assertEqual([book.why(number, "run", known=4) for number in range(4)],
                         [("untold",), ("wind",), ("course",), ("struck",)])
        self.assertEqual([book.why(number, "run") for number in range(4)],
                         [("held", (3, 0), None), ("wind",), ("course",), ("struck",)])
        # Be it of another best, the word stands ahead of all else.
        self.assertEqual([book.why(number, "put", "open", 0, 4) for number in range(4)],
                         [("untold",), ("wind",), ("course",), ("struck",)])

    def test_other(self):
        book = with_deeds(run("ann", 50, 3))
        for best in (("put",), ("put", "girls", 1), ("run", "boys"), ("run", "open"), ("run", None, 0),
                     ("run", "girls", 0)):
            self.assertEqual(book.why(0, *best), ("other",))
        for best in (("run",), ("run", "girls"), ("run", None, 1), ("run", "girls", 2)):
            self.assertEqual(book.why(0, *best), ("held", (3, 0), None))

    def test_held(self):
        book = told(open_book(), run("ann", 50, 3, 1), run("bob", 49, 5, 23), run("cy", 49, 6, 0), run("dee", 48, 7, 9))
        self.assertEqual([book.why(number, "run") for number in range(4)],
                         [("held", (3, 1), (5, 23)), ("held", (5, 23), (7, 9)), ("held", (6, 0), (7, 9)),
                          ("held", (7, 9), None)])
        for number, name, mark, since, till in book.stints("run"):
            self.assertEqual(book.why(number, "run"), ("held", since, till))

    def test_behind_a_better_one(self):
        book = told(open_book(), run("ann", 50, 3), run("bob", 51, 4), run("cy", 49, 5), run("dee", 50, 6))
        self.assertEqual(book.why(1, "run"), ("behind", 0))
        self.assertEqual(book.why(3, "run"), ("behind", 2))
        self.assertEqual(book.why(1, "run", "boys"), ("held", (4, 0), (5, 0)))

    def test_behind_ones_own(self):
        for shares in (True, False):
            book = told(open_book(shares), run("ann", 50, 3), run("ann", 50, 4), run("ann", 51, 4))
            self.assertEqual([book.why(number, "run") for number in (1, 2)], [("behind", 0), ("behind", 0)])

    def test_behind_the_same_mark_where_none_share(self):
        book = told(open_book(False), run("ann", 50, 3), run("bob", 50, 4), run("cy", 50, 4))
        self.assertEqual([book.why(number, "run") for number in (1, 2)], [("behind", 0), ("behind", 0)])

    def test_behind_the_first_of_several(self):
        book = told(open_book(), run("dee", 60, 1), run("cy", 55, 3), run("ann", 55, 2), run("bob", 55, 4),
                    run("dee", 56, 5), run("cy", 55, 5), run("dee", 56, 3, 1))
        self.assertEqual([stint[0] for stint in book.stints("run")], [0, 2, 1, 3])
        self.assertEqual(book.why(4, "run"), ("behind", 2))
        self.assertEqual(book.why(5, "run"), ("behind", 2))
        self.assertEqual(book.why(6, "run"), ("behind", 2))
        self.assertEqual(book.why(6, "run", "girls"), ("behind", 2))

    def test_behind_those_held_just_ahead_not_those_held_now(self):
        book = told(open_book(), run("ann", 50, 1), run("bob", 51, 2), run("cy", 40, 3), run("dee", 45, 4),
                    run("ann", 30, 5))
        self.assertEqual(book.why(1, "run"), ("behind", 0))
        self.assertEqual(book.why(3, "run"), ("behind", 2))

    def test_of_one_time_by_numbers(self):
        book = told(open_book(), run("ann", 50, 3, 7), run("bob", 51, 3, 7), run("cy", 40, 3, 7), run("dee", 45, 3, 7),
                    run("ann", 30, 3, 7))
        self.assertEqual([book.why(number, "run") for number in range(5)],
                         [("held", (3, 7), (3, 7)), ("behind", 0), ("held", (3, 7), (3, 7)), ("behind", 2),
                          ("held", (3, 7), None)])

    def test_told_in_another_order_than_done(self):
        book = told(open_book(), run("dee", 45, 4), run("cy", 40, 3), run("bob", 51, 2), run("ann", 50, 1))
        self.assertEqual([book.why(number, "run") for number in range(4)],
                         [("behind", 1), ("held", (3, 0), None), ("behind", 3), ("held", (1, 0), (3, 0))])

    def test_the_way_more(self):
        book = told(open_book(), put("ann", 50, 3), put("bob", 49, 4), put("cy", 51, 5), put("dee", 50, 6))
        self.assertEqual([book.why(number, "put") for number in range(4)],
                         [("held", (3, 0), (5, 0)), ("behind", 0), ("held", (5, 0), None), ("behind", 2)])

    def test_as_known(self):
        book = open_book()
        book.tell(run("ann", 50, 3))
        book.tell(run("bob", 51, 4))
        book.tell(run("cy", 49, 2), 8)
        book.strike(0, 6)
        for known, expected in ((3, ["held", "untold", "untold"]), (4, ["held", "behind", "untold"]),
                                (6, ["struck", "held", "untold"]), (8, ["struck", "behind", "held"]),
                                (None, ["struck", "behind", "held"])):
            self.assertEqual([book.why(number, "run", None, None, known)[0] for number in range(3)], expected)
        self.assertEqual(book.why(1, "run", known=4), ("behind", 0))
        self.assertEqual(book.why(1, "run", known=8), ("behind", 2))

    def test_by_name(self):
        book = busy()
        for number in range(len(book)):
            for event, group, place in bests(book):
                for known in (None, 3, 6):
                    self.assertEqual(
                        book.why(known=known, place=place, group=group, event=event, number=number),
                        book.why(number, event, group, place, known))
            self.assertEqual(book.why(number, "run"), book.why(number, "run", None, None, None))
            self.assertIs(type(book.why(number, "run")), tuple)


class ToBreak(unittest.TestCase):
    """6.6: what mark would break a best."""

    def test_one_better_either_way(self):
        for mark in (2, 3, 50, 999999, 10 ** 6):
            self.assertEqual(told(open_book(), run("ann", mark, 3)).to_break("run"), mark - 1)
        for mark in (1, 2, 50, 999998, 999999):
            self.assertEqual(told(open_book(), put("ann", mark, 3)).to_break("put"), mark + 1)

    def test_none_at_the_bounds(self):
        self.assertIsNone(told(open_book(), run("ann", 1, 3)).to_break("run"))
        self.assertIsNone(told(open_book(), put("ann", 10 ** 6, 3)).to_break("put"))

    def test_where_nobody_holds_it(self):
        book = open_book(events=(RUN, PUT, HOP, ROW))
        self.assertEqual([book.to_break(event) for event in ("run", "put", "hop", "row")], [10 ** 6, 1, 1, 10 ** 6])
        self.assertEqual(told(book, run("ann", 50, 3)).to_break("run", "boys"), 10 ** 6)
        self.assertEqual(book.to_break("run", None, None, 2), 10 ** 6)
        self.assertEqual(book.to_break("run", None, None, None, 2), 10 ** 6)

    def test_of_days_and_as_known(self):
        book = open_book()
        book.tell(run("ann", 50, 3))
        book.tell(run("bob", 40, 5), 8)
        for day, known, mark in ((None, None, 39), (5, None, 39), (4, None, 49), (2, None, 10 ** 6), (None, 7, 49),
                                 (5, 8, 39), (4, 8, 49), (40000, 2, 10 ** 6)):
            self.assertEqual(book.to_break("run", None, None, day, known), mark)
            self.assertEqual(book.to_break(known=known, event="run", day=day), mark)

    def test_of_groups_and_classes(self):
        book = with_deeds(run("ann", 50, 3), run("bob", 49, 3), run("cy", 51, 3))
        self.assertEqual([book.to_break("run", None, place) for place in (None, 0, 1, 2)], [48, 50, 49, 48])
        self.assertEqual([book.to_break("run", "girls", place) for place in (None, 0, 1, 2)], [49, 10 ** 6, 49, 49])

    def test_it_breaks_and_the_next_worse_one_does_not(self):
        book = busy()
        for event, group in (("run", None), ("put", None), ("run", "boys"), ("put", "girls")):
            mark = book.to_break(event, group)
            worse = mark + 1 if event == "run" else mark - 1
            for name in ("ann", "bob"):
                twin = book.twin()
                number = twin.tell(Deed(name, event, mark, 20))
                worse_twin = book.twin()
                other = worse_twin.tell(Deed(name, event, worse, 20))
                if group is None or name == {"girls": "ann", "boys": "bob"}[group]:
                    self.assertEqual(twin.holders(event, group), (mark, (name,)))
                    self.assertEqual(twin.why(number, event, group), ("held", (20, 0), None))
                    self.assertEqual(worse_twin.holders(event, group)[0], book.holders(event, group)[0])
                    self.assertIn(worse_twin.why(other, event, group)[0], ("held", "behind"))


class BestsOf(unittest.TestCase):
    """6.6: of which bests a deed is a stint."""

    def test_of_all_and_of_its_group_of_several_classes(self):
        book = with_deeds(run("cy", 50, 3), run("ann", 50, 4), run("bob", 50, 5), run("dee", 49, 6))
        self.assertEqual(book.bests_of(0), [
            ("run", "", 0), ("run", "", 1), ("run", "", 2), ("run", "boys", 0), ("run", "boys", 1), ("run", "boys", 2)])
        self.assertEqual(book.bests_of(1), [("run", "", 1), ("run", "", 2), ("run", "girls", 1), ("run", "girls", 2)])
        self.assertEqual(book.bests_of(2), [("run", "", 2), ("run", "boys", 2)])
        self.assertEqual(book.bests_of(number=3), [
            ("run", "", 0), ("run", "", 1), ("run", "", 2), ("run", "girls", 0), ("run", "girls", 1),
            ("run", "girls", 2)])

    def test_of_its_group_alone_and_of_a_class_alone(self):
        book = with_deeds(run("bob", 50, 3), run("ann", 51, 4), run("cy", 52, 5))
        self.assertEqual(book.bests_of(1), [("run", "", 1), ("run", "girls", 1), ("run", "girls", 2)])
        self.assertEqual(book.bests_of(2), [("run", "", 0), ("run", "boys", 0), ("run", "boys", 1)])
        book = empty(Rules((12, 16), False, 20, True))
        told(book, run("bob", 50, 3), run("ann", 51, 4), run("cy", 52, 5))
        self.assertEqual([book.bests_of(number) for number in range(3)],
                         [[("run", "", 2), ("run", "boys", 2)], [("run", "", 1), ("run", "girls", 1)],
                          [("run", "", 0), ("run", "boys", 0)]])

    def test_of_none(self):
        book = with_deeds(run("bob", 50, 3), run("bob", 50, 4), run("bob", 51, 5), run("bob", 40, 6, 0, 21),
                          run("bob", 40, 6, 0, 0, "hill"), run("bob", 30, 7))
        book.strike(5, 8)
        book.measure("hill", 0, 9, 8)
        self.assertEqual([book.bests_of(number) for number in range(1, 6)], [[]] * 5)
        self.assertIs(type(book.bests_of(1)), list)

    def test_ended_stints_too(self):
        book = told(open_book(), run("ann", 50, 3), run("ann", 49, 4))
        self.assertEqual(book.bests_of(0), [("run", "", 0), ("run", "girls", 0)])
        self.assertEqual(book.bests_of(1), [("run", "", 0), ("run", "girls", 0)])

    def test_of_its_own_event_alone(self):
        book = told(open_book(), run("ann", 50, 3), put("ann", 50, 3))
        self.assertEqual(book.bests_of(0), [("run", "", 0), ("run", "girls", 0)])
        self.assertEqual(book.bests_of(1), [("put", "", 0), ("put", "girls", 0)])

    def test_all_is_known(self):
        book = open_book()
        book.tell(run("ann", 50, 3), 40000)
        book.tell(run("dee", 51, 4))
        self.assertEqual([book.bests_of(number) for number in (0, 1)], [[("run", "", 0), ("run", "girls", 0)], []])
        book.strike(0, 40000)
        self.assertEqual([book.bests_of(number) for number in (0, 1)], [[], [("run", "", 0), ("run", "girls", 0)]])

    def test_what_a_striking_turns(self):
        for book in (busy(), with_deeds(run("cy", 50, 3), run("ann", 50, 4), run("bob", 51, 5), run("dee", 49, 6),
                                        run("dee", 49, 6, 1), put("cy", 9, 3), put("dee", 9, 3), run("bob", 48, 9))):
            for number in range(len(book)):
                was = {best: book.stints(*best) for best in bests(book)}
                of_it = [(event, group or None, place) for event, group, place in book.bests_of(number)]
                book.strike(number, 40000)
                for best, stints in was.items():
                    turned = (best[0], best[1], 2 if best[2] is None else best[2]) in of_it
                    self.assertIs(book.stints(*best) != stints, turned, (number, best))
                    self.assertIs(book.stints(*best, 40000) != stints, turned)
                    self.assertEqual(book.stints(*best, 39999), stints)
                self.assertEqual(book.bests_of(number), [])
                word = book.state(number, 39999)
                book.restore(number, 40000)
                self.assertEqual({best: book.stints(*best) for best in bests(book)}, was)
                self.assertEqual(book.state(number), word)


if __name__ == "__main__":
    unittest.main()
