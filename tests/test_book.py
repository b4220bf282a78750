"""A book and the papers told to it: 6.1."""

import unittest
import unittest.mock

from bestsbook.book import Book
from bestsbook.deeds import Deed
from bestsbook.errors import (
    Clash, Full, Gone, NoDay, NoDeed, NoEvent, NoEvents, NoName, NoPerson, NoRules, NoUndo, Unborn, Unknown,
)
from bestsbook.people import Person
from bestsbook.rules import Rules
from bestsbook.sheets import Sheet
from tests.books import (
    HOP, KNOWN, PUT, ROW, RULES, RUN, answers, busy, empty, full, people, put, run, unmade, with_deeds,
)
from tests.things import anything, but, but_days, but_names, but_numbers, check_equal, refusal, refused

DAYS = (-40000, -1, 0, 3, 40000)


class Refusals(unittest.TestCase):

    def assert_refused(self, book, expected, call, *values, **named):
        """Check what refuses a call, as (class, field), and that the call changes nothing."""
        was = book.twin()
        self.assertEqual(refusal(call, *values, **named), expected, repr(values)[:200])
        self.assertTrue(book == was)
        self.assertEqual(len(unmade(book)), len(unmade(was)))


class Made(unittest.TestCase):

    def assert_book(self, book, events, rules):
        self.assertIs(type(book.events), tuple)
        self.assertEqual(book.events, events)
        self.assertIsInstance(book.rules, Rules)
        self.assertTrue(book.rules == rules)
        self.assertEqual(len(book), 0)

    def test_one_to_four_events(self):
        for events in ((RUN,), (RUN, PUT), (PUT, RUN, ROW), (RUN, PUT, HOP, ROW)):
            self.assert_book(Book(events), events, Rules())
            self.assert_book(Book(events, RULES), events, RULES)

    def test_events_alike_but_for_the_name(self):
        events = (("a", "less", True), ("b", "less", True), ("ab", "less", True), ("ba", "less", True))
        self.assert_book(Book(events), events, Rules())

    def test_rules_none_left_out_and_by_name(self):
        self.assert_book(Book((RUN,), None), (RUN,), Rules())
        self.assert_book(Book((RUN,), rules=None), (RUN,), Rules())
        self.assert_book(Book((RUN,), rules=RULES), (RUN,), RULES)
        self.assert_book(Book(rules=RULES, events=(RUN, PUT)), (RUN, PUT), RULES)
        self.assert_book(Book(events=(RUN,)), (RUN,), Rules())

    def test_no_events(self):
        five = (RUN, PUT, HOP, ROW, ("swim", "less", False))
        twice = [(RUN, RUN), (RUN, PUT, RUN), (RUN, ("run", "more", False)), (RUN, PUT, HOP, ("put", "less", True))]
        lists = [[RUN], [RUN, PUT], [list(RUN)], (list(RUN),), {0: RUN}, RUN, "run", ("run",)]
        wrong = [("Run", "less", True), ("run", "most", True), ("run", "less", 1), ("run", "less", None),
                 ("run", "less"), ("run", "less", True, True), ("", "less", True), ("abcdefghi", "less", True)]
        inside = [(event,) for event in wrong] + [(RUN, event) for event in wrong] + [
            (event, PUT, ROW) for event in wrong]
        for thing in [(), five, five + five] + twice + lists + inside + anything():
            for rules in (None, RULES, "rules", 7):
                self.assertIs(refused(Book, thing, rules), NoEvents, repr(thing)[:80])
                self.assertIs(refused(Book, rules=rules, events=thing), NoEvents)

    def test_one_among_events_that_is_none(self):
        for thing in anything():
            if thing == ("run", "less", False):
                continue
            for events in ((thing,), (RUN, thing), (thing, RUN), (RUN, PUT, ROW, thing)):
                self.assertIs(refused(Book, events), NoEvents, repr(thing)[:80])

    def test_no_rules(self):
        for thing in but(Rules) + [(12, 16), "None"]:
            if thing is not None:
                self.assertIs(refused(Book, (RUN,), thing), NoRules, repr(thing)[:80])
                self.assertIs(refused(Book, (RUN, PUT), rules=thing), NoRules)

    def test_two_books_have_nothing_in_common(self):
        one, other = Book((RUN, PUT), RULES), Book((RUN, PUT), RULES)
        for person in people():
            one.enrol(person)
        one.tell(run("ann", 50, 3))
        one.strike(0, 4)
        self.assertEqual(len(other), 0)
        self.assertTrue(other == Book((RUN, PUT), RULES))
        self.assertIs(refused(other.undo), NoUndo)
        self.assertIs(refused(other.tell, run("ann", 50, 3)), Unknown)


class Enrol(Refusals):

    def test_tells_nothing(self):
        book = Book((RUN,))
        self.assertIsNone(book.enrol(Person("ann", 5)))
        self.assertIsNone(book.enrol(person=Person("bob", 5)))
        self.assertEqual(book.tell(run("ann", 9, 5)), 0)
        self.assertEqual(book.tell(run("bob", 9, 5)), 1)

    def test_no_person(self):
        for book in (Book((RUN,)), busy()):
            for thing in but(Person) + ["ann", ("ann", 5), [Person("zed", 5)], str(Person("zed", 5))]:
                self.assert_refused(book, (NoPerson, None), book.enrol, thing)
                self.assert_refused(book, (NoPerson, None), book.enrol, person=thing)

    def test_an_equal_one_again_turns_nothing(self):
        book = empty()
        was = book.twin()
        for person in people():
            self.assertIsNone(book.enrol(person))
            self.assertTrue(book == was)
        self.assertEqual(len(unmade(book)), len(unmade(was)))

    def test_an_equal_one_again_is_no_paper(self):
        book = Book((RUN,))
        book.enrol(Person("ann", 5))
        book.enrol(Person("bob", 5))
        book.enrol(Person("ann", 5))
        book.undo()
        self.assertEqual(book.tell(run("ann", 9, 5)), 0)
        self.assertIs(refused(book.tell, run("bob", 9, 5)), Unknown)

    def test_an_unequal_one_clashes(self):
        book = empty()
        ann = people()[0]
        for other in (Person("ann", ann.born + 1, "girls", "reds"), Person("ann", ann.born, "boys", "reds"),
                      Person("ann", ann.born, "girls", ""), Person("ann", 7)):
            self.assert_refused(book, (Clash, None), book.enrol, other)
        self.assertIsNone(book.enrol(ann))


class Tell(Refusals):

    def test_numbers_from_0_on(self):
        book = empty()
        for number in range(20):
            self.assertEqual(len(book), number)
            told = book.tell(run("ann", 50 + number, 3))
            self.assertIs(type(told), int)
            self.assertEqual(told, number)
        self.assertEqual(len(book), 20)

    def test_other_papers_take_no_number(self):
        book = empty()
        self.assertEqual(book.tell(run("ann", 50, 3)), 0)
        book.strike(0, 3)
        book.measure("yard", 3, 3, 3)
        book.enrol(Person("zed", 0))
        self.assertEqual(book.tell(run("ann", 51, 3)), 1)
        self.assertEqual(len(book), 2)

    def test_a_number_is_free_again_when_its_deed_is_undone(self):
        book = with_deeds(run("ann", 50, 3), run("ann", 51, 3))
        book.undo()
        self.assertEqual(book.tell(run("bob", 52, 3)), 1)
        self.assertEqual(len(book), 2)

    def test_known_none_and_the_deeds_day(self):
        for values, named in (((), {}), ((None,), {}), ((), {"known": None}), ((3,), {}), ((), {"known": 3})):
            book = empty()
            self.assertEqual(book.tell(run("ann", 50, 3), *values, **named), 0)
            self.assertEqual([book.state(0, known) for known in (2, 3, 4)], ["untold", "good", "good"])
            self.assertTrue(book == with_deeds(run("ann", 50, 3)))

    def test_by_names(self):
        book = empty()
        self.assertEqual(book.tell(known=7, deed=run("ann", 50, 3)), 0)
        self.assertEqual(book.tell(deed=run("ann", 51, 3)), 1)
        self.assertEqual([book.state(number, 6) for number in (0, 1)], ["untold", "good"])

    def test_known_from_the_deeds_day_on(self):
        for day in (2, 3, 5, 40000):
            for known in (day, day + 1, 39999, 40000):
                book = empty()
                if day <= known <= 40000:
                    self.assertEqual(book.tell(run("ann", 50, day), known), 0)
                    self.assertEqual(book.state(0, known - 1), "untold")
                    self.assertEqual(book.state(0, known), "good")
        book = Book((RUN,))
        book.enrol(Person("ann", -40000))
        self.assertEqual(book.tell(run("ann", 50, -40000)), 0)
        self.assertEqual(book.tell(run("ann", 51, -40000), 40000), 1)
        self.assertEqual(book.tell(run("ann", 52, 40000), 40000), 2)

    def test_no_deed(self):
        book = busy()
        for thing in but(Deed) + [Sheet([run("ann", 50, 3)]), [run("ann", 50, 3)], str(run("ann", 50, 3))]:
            for known in (None, 3, 40001, "x", True):
                self.assertEqual(refusal(book.tell, thing, known), (NoDeed, None), repr(thing)[:80])
            self.assert_refused(book, (NoDeed, None), book.tell, known=3, deed=thing)

    def test_known_is_no_day(self):
        book = busy()
        for thing in but_days() + [3.0, "3", (3,)]:
            if thing is not None:
                self.assert_refused(book, (NoDay, None), book.tell, run("ann", 99, 3), thing)
                self.assertEqual(refusal(book.tell, known=thing, deed=run("ann", 99, 3)), (NoDay, None))

    def test_known_ahead_of_the_deeds_day(self):
        book = busy()
        for day, known in ((3, 2), (3, 0), (3, -3), (3, -40000), (40000, 39999), (0, -1), (-39999, -40000)):
            self.assert_refused(book, (NoDay, None), book.tell, run("bob", 99, day), known)

    def test_nobody_of_that_name(self):
        book = busy()
        for name in ("zed", "an", "anne", "bobb", "girls", "reds", "run"):
            self.assert_refused(book, (Unknown, name), book.tell, run(name, 99, 3))
        self.assertIs(refused(Book((RUN,)).tell, run("ann", 99, 3)), Unknown)

    def test_no_such_event(self):
        book = busy()
        for event in ("hop", "ru", "runs", "less", "ann", "yard"):
            self.assert_refused(book, (NoEvent, event), book.tell, Deed("ann", event, 99, 3))

    def test_born_behind_the_day(self):
        book = busy()
        for day in (1, 0, -40000):
            self.assert_refused(book, (Unborn, None), book.tell, run("dee", 99, day), 40000)
        self.assertEqual(book.tell(run("dee", 99, 2)), len(book) - 1)
        self.assertEqual(book.tell(run("dee", 99, 3)), len(book) - 1)
        self.assert_refused(book, (Unborn, None), book.tell, run("ann", 99, people()[0].born - 1))
        self.assertEqual(book.tell(run("ann", 99, people()[0].born)), len(book) - 1)

    def test_an_equal_deed_is_there(self):
        book = busy()
        for number, deed in ((0, run("ann", 50, 1)), (1, run("bob", 48, 2)), (5, put("bob", 900, 4))):
            for known in (None, deed.day, 4, 9, 40000):
                self.assert_refused(book, (Clash, None), book.tell, deed, known)
            book.strike(number, 0)
            # It is there still, though it is out.
            self.assert_refused(book, (Clash, None), book.tell, deed)

    def test_a_deed_unlike_in_one_part(self):
        parts = ("ann", "run", 50, 3, 2, 1, "yard")
        book = with_deeds(Deed(*parts))
        for at, value in enumerate(("bob", "put", 51, 4, 3, 0, "yards")):
            book.tell(Deed(*parts[:at], value, *parts[at + 1:]))
        self.assertEqual(len(book), 8)

    def test_a_hundred(self):
        book = full(99)
        self.assertEqual(book.tell(run("bob", 99, 3)), 99)
        self.assertEqual(len(book), 100)
        for deed in (run("bob", 100, 3), put("ann", 5, 7)):
            self.assert_refused(book, (Full, None), book.tell, deed)
        book.strike(0, 3)
        self.assert_refused(book, (Full, None), book.tell, run("bob", 100, 3))
        book.undo()
        book.undo()
        self.assertEqual(book.tell(run("bob", 100, 3)), 99)
        self.assertIs(refused(book.tell, run("bob", 101, 3)), Full)

    def test_the_first_of_two_and_of_all(self):
        book = empty()
        book.tell(Deed("ann", "run", 1, 3))
        for mark in range(2, 101):
            book.tell(run("ann", mark, 3))
        known = (NoDay, None)
        for expected, deed, day in (
            (known, Deed("zed", "run", 9, 3), 2), (known, Deed("ann", "hop", 9, 3), True),
            (known, Deed("dee", "run", 9, 1), 0), (known, Deed("ann", "run", 1, 3), 40001),
            (known, Deed("ann", "run", 999, 3), 2), (known, Deed("zed", "hop", 9, 3), "x"),
            ((Unknown, "zed"), Deed("zed", "hop", 9, 3), None), ((Unknown, "zed"), Deed("zed", "run", 9, 3), 3),
            ((NoEvent, "hop"), Deed("dee", "hop", 9, 1), 3), ((NoEvent, "hop"), Deed("ann", "hop", 9, 3), None),
            ((Unborn, None), Deed("dee", "run", 9, 1), 9), ((Clash, None), Deed("ann", "run", 1, 3), None),
            ((Clash, None), Deed("ann", "run", 50, 3), 40000), ((Full, None), Deed("ann", "run", 101, 3), None),
        ):
            self.assert_refused(book, expected, book.tell, deed, day)


class StrikeAndRestore(Refusals):

    def test_tell_nothing(self):
        book = with_deeds(run("ann", 50, 3))
        self.assertIsNone(book.strike(0, 5))
        self.assertEqual(book.state(0), "struck")
        self.assertIsNone(book.restore(0, 6))
        self.assertEqual(book.state(0), "good")
        self.assertIsNone(book.strike(known=7, number=0))
        self.assertEqual(book.state(0), "struck")
        self.assertIsNone(book.restore(known=8, number=0))
        self.assertEqual(book.state(0), "good")
        self.assertEqual([book.state(0, known) for known in range(3, 10)],
                         ["good", "good", "struck", "good", "struck", "good", "good"])

    def test_known_on_any_day(self):
        for known in DAYS:
            book = with_deeds(run("ann", 50, 3))
            self.assertIsNone(book.strike(0, known))
            self.assertEqual(book.state(0), "struck")
            self.assertIsNone(book.restore(0, known))
            self.assertEqual(book.state(0), "good")

    def test_only_that_deed(self):
        book = with_deeds(*[run("ann", 50 + number, 3) for number in range(5)])
        book.strike(3, 3)
        self.assertEqual([book.state(number) for number in range(5)], ["good", "good", "good", "struck", "good"])

    def test_no_such_number(self):
        for many in (0, 1, 4, 100):
            book = full(many)
            for thing in but_numbers(0, many - 1) + [many, -1, -many, many + 1, "0", (0,)]:
                for call in (book.strike, book.restore):
                    for known in (3, None, 40001):
                        self.assertEqual(refusal(call, thing, known), (Gone, thing), repr(thing)[:80])
            self.assert_refused(book, (Gone, many), book.strike, known=3, number=many)
            self.assert_refused(book, (Gone, many), book.restore, known=3, number=many)

    def test_the_thing_asked_is_the_very_thing(self):
        for thing in but_numbers(0, 0):
            for call in (with_deeds(run("ann", 50, 3)).strike, with_deeds(run("ann", 50, 3)).restore):
                with self.assertRaises(Gone) as caught:
                    call(thing, 3)
                self.assertIs(caught.exception.asked, thing)

    def test_known_is_no_day(self):
        book = busy()
        for thing in but_days():
            for call in (book.strike, book.restore):
                self.assert_refused(book, (NoDay, None), call, 0, thing)
            self.assertEqual(refusal(book.strike, known=thing, number=0), (NoDay, None))


class MeasureAndUphold(Refusals):

    def test_tell_nothing(self):
        book = with_deeds(run("ann", 50, 3))
        self.assertIsNone(book.measure("yard", 3, 4, 5))
        self.assertEqual(book.state(0), "course")
        self.assertIsNone(book.uphold("yard", 6))
        self.assertEqual(book.state(0), "good")
        self.assertIsNone(book.measure(known=7, till=3, since=2, course="yard"))
        self.assertEqual(book.state(0), "course")
        self.assertIsNone(book.uphold(known=8, course="yard"))
        self.assertEqual(book.state(0), "good")

    def test_courses_of_no_deed_and_days_of_any_kind(self):
        book = with_deeds(run("ann", 50, 3))
        for values in (("hill", 0, 0, 0), ("a", -40000, 40000, -40000), ("abcdefgh", 40000, 40000, 40000),
                       ("hill", -40000, -40000, 40000)):
            self.assertIsNone(book.measure(*values))
            self.assertEqual(book.state(0), "good")
        self.assertIsNone(book.uphold("zzz", -40000))
        self.assertIsNone(book.uphold("yard", 40000))
        self.assertEqual(book.state(0), "good")

    def test_no_course(self):
        book = busy()
        for thing in but_names():
            for days in ((1, 2, 3), (2, 1, 3), (None, True, "x")):
                self.assertEqual(refusal(book.measure, thing, *days), (NoName, None), repr(thing)[:80])
            self.assertEqual(refusal(book.uphold, thing, 3), (NoName, None), repr(thing)[:80])
            self.assertEqual(refusal(book.uphold, thing, None), (NoName, None))
        self.assert_refused(book, (NoName, None), book.measure, "Yard", 1, 2, 3)
        self.assert_refused(book, (NoName, None), book.uphold, "", 3)

    def test_no_days(self):
        book = busy()
        for thing in but_days():
            self.assert_refused(book, (NoDay, None), book.measure, "yard", thing, 4, 5)
            self.assert_refused(book, (NoDay, None), book.measure, "yard", 3, thing, 5)
            self.assert_refused(book, (NoDay, None), book.measure, "yard", 3, 4, thing)
            self.assert_refused(book, (NoDay, None), book.uphold, "yard", thing)

    def test_till_ahead_of_since(self):
        book = busy()
        for since, till in ((4, 3), (0, -1), (40000, -40000), (-39999, -40000), (10, 9)):
            self.assert_refused(book, (NoDay, None), book.measure, "yard", since, till, 40000)
        self.assertIsNone(book.measure("yard", 4, 4, -40000))


class Undo(Refusals):

    def test_tells_nothing(self):
        self.assertIsNone(with_deeds(run("ann", 50, 3)).undo())

    def test_each_kind_of_paper(self):
        for told in (lambda book: book.enrol(Person("zed", 0)), lambda book: book.tell(run("bob", 99, 3), 5),
                     lambda book: book.strike(2, 3), lambda book: book.restore(2, 3),
                     lambda book: book.measure("yard", 0, 9, 1), lambda book: book.uphold("yard", 9)):
            book = busy()
            was = book.twin()
            told(book)
            self.assertFalse(book == was)
            book.undo()
            self.assertTrue(book == was)
            self.assertEqual(answers(book), answers(was))

    def test_a_person_that_is_undone_is_nobody(self):
        book = Book((RUN,))
        book.enrol(Person("ann", 0))
        book.undo()
        self.assertIs(refused(book.tell, run("ann", 50, 3)), Unknown)
        self.assertIsNone(book.enrol(Person("ann", 1)))
        self.assertEqual(book.tell(run("ann", 50, 3)), 0)

    def test_the_last_person_not_another_one(self):
        book = empty()
        book.undo()
        book.undo()
        self.assertIs(refused(book.tell, run("dee", 50, 3)), Unknown)
        self.assertIs(refused(book.tell, run("cy", 50, 3)), Unknown)
        self.assertEqual(book.tell(run("bob", 50, 3)), 0)
        book.undo()
        # Enrolled anew, and behind bob again.
        book.enrol(people()[3])
        book.undo()
        self.assertEqual(book.tell(run("bob", 50, 3)), 0)
        self.assertIs(refused(book.tell, run("dee", 50, 3)), Unknown)

    def test_all_of_them_then_none(self):
        book = busy()
        steps = [book.twin()]
        # As many papers as busy tells: four people, six deeds, five others.
        for _ in range(15):
            book.undo()
            steps.append(book.twin())
        self.assertTrue(book == Book((RUN, PUT), RULES))
        for _ in range(3):
            self.assert_refused(book, (NoUndo, None), book.undo)
        for one, other in zip(steps, steps[1:]):
            self.assertFalse(one == other)
        self.assertEqual(len(unmade(busy())), 16)

    def test_nothing_to_undo_in_a_new_book(self):
        book = Book((RUN,))
        self.assert_refused(book, (NoUndo, None), book.undo)

    def test_what_is_told_again_stands_as_it_stood(self):
        book = busy()
        for _ in range(5):
            book.undo()
        book.tell(run("cy", 47, 3, 1, 21))
        book.restore(0, 7)
        book.uphold("hill", 8)
        book.tell(put("bob", 900, 4))
        book.measure("yard", 4, 9, 9)
        self.assertTrue(book == busy())
        self.assertEqual(answers(book), answers(busy()))
        self.assertEqual(len(unmade(book)), 16)

    def test_what_was_refused_is_no_paper(self):
        book = busy()
        for call, *values in ((book.tell, run("ann", 50, 1)), (book.strike, 9, 9), (book.measure, "yard", 2, 1, 1),
                              (book.enrol, Person("ann", 1)), (book.uphold, "Yard", 3), (book.restore, 0, None)):
            self.assertIsNotNone(refused(call, *values))
        book.undo()
        other = busy()
        other.undo()
        self.assertTrue(book == other)


class Twin(unittest.TestCase):

    def test_what_stands_and_what_can_be_undone(self):
        for book in (Book((RUN,)), Book((HOP, ROW), RULES), empty(), busy(), full()):
            twin = book.twin()
            self.assertIsInstance(twin, Book)
            self.assertIsNot(twin, book)
            check_equal(self, True, book, twin)
            self.assertEqual(twin.events, book.events)
            self.assertTrue(twin.rules == book.rules)
            self.assertEqual(len(twin), len(book))
        self.assertEqual(answers(busy().twin()), answers(busy()))

    def test_each_goes_on_by_itself(self):
        for told in (lambda book: book.enrol(Person("zed", 0)), lambda book: book.tell(run("bob", 99, 3), 5),
                     lambda book: book.strike(2, 3), lambda book: book.measure("yard", 0, 9, 1),
                     lambda book: book.undo()):
            for first in (True, False):
                book = busy()
                twin = book.twin()
                told(book if first else twin)
                self.assertFalse(book == twin)
                self.assertTrue((twin if first else book) == busy())
                self.assertEqual(answers(twin if first else book), answers(busy()))
                told(twin if first else book)
                self.assertTrue(book == twin)

    def test_undoing_all_of_either_one(self):
        for first in (True, False):
            book = busy()
            twin = book.twin()
            one, other = (book, twin) if first else (twin, book)
            for _ in range(15):
                one.undo()
            self.assertIs(refused(one.undo), NoUndo)
            self.assertTrue(other == busy())
            self.assertEqual(answers(other), answers(busy()))
            for _ in range(15):
                other.undo()
            self.assertIs(refused(other.undo), NoUndo)
            self.assertTrue(one == other)

    def test_a_twin_of_a_twin(self):
        book = busy()
        twin = book.twin().twin()
        book.undo()
        self.assertTrue(twin == busy())
        twin.undo()
        self.assertTrue(twin == book)


class Equal(unittest.TestCase):

    def test_the_same_papers(self):
        book = busy()
        check_equal(self, True, book, book)
        check_equal(self, True, book, busy())
        check_equal(self, True, Book((RUN,)), Book((RUN,), Rules()))

    def test_unlike_events(self):
        for other in ((RUN,), (PUT, RUN), (RUN, PUT, ROW), (RUN, ("put", "more", True)), (RUN, ("put", "less", False)),
                      (RUN, ("puts", "more", False))):
            check_equal(self, False, Book((RUN, PUT)), Book(other))

    def test_unlike_rules(self):
        for other in (Rules((12,), True, 20, True), Rules((12, 16), False, 20, True), Rules((12, 16), True, 21, True),
                      Rules((12, 16), True, 20, False), Rules(), None):
            check_equal(self, False, Book((RUN,), RULES), Book((RUN,), other))

    def test_people_in_whatever_order(self):
        one, other = Book((RUN,)), Book((RUN,))
        for person in people():
            one.enrol(person)
        for person in people()[::-1]:
            other.enrol(person)
        check_equal(self, True, one, other)
        one.undo()
        check_equal(self, False, one, other)
        other.undo()
        # Dee is not in the one, ann not in the other one.
        check_equal(self, False, one, other)

    def test_unlike_people(self):
        one, other = Book((RUN,)), Book((RUN,))
        one.enrol(Person("ann", 5))
        check_equal(self, False, one, other)
        other.enrol(Person("ann", 5, "open", "reds"))
        check_equal(self, False, one, other)

    def test_unlike_deeds(self):
        check_equal(self, False, with_deeds(run("ann", 50, 3)), with_deeds())
        check_equal(self, False, with_deeds(run("ann", 50, 3)), with_deeds(run("ann", 51, 3)))
        check_equal(self, False, with_deeds(run("ann", 50, 3)), with_deeds(run("bob", 50, 3)))

    def test_deeds_in_another_order(self):
        deeds = [run("ann", 50, 3), run("bob", 50, 3)]
        check_equal(self, True, with_deeds(*deeds), with_deeds(*deeds))
        check_equal(self, False, with_deeds(*deeds), with_deeds(*deeds[::-1]))

    def test_deeds_known_from_unlike_days(self):
        one, other = empty(), empty()
        one.tell(run("ann", 50, 3), 5)
        other.tell(run("ann", 50, 3), 6)
        check_equal(self, False, one, other)
        check_equal(self, False, one, with_deeds(run("ann", 50, 3)))

    def test_other_papers(self):
        told = [
            lambda book: book.strike(0, 5), lambda book: book.strike(1, 5), lambda book: book.strike(0, 6),
            lambda book: book.restore(0, 5), lambda book: book.restore(1, 5), lambda book: book.restore(0, 6),
            lambda book: book.measure("yard", 4, 6, 5), lambda book: book.measure("yards", 4, 6, 5),
            lambda book: book.measure("yard", 3, 6, 5), lambda book: book.measure("yard", 4, 7, 5),
            lambda book: book.measure("yard", 4, 6, 6), lambda book: book.uphold("yard", 5),
            lambda book: book.uphold("yards", 5), lambda book: book.uphold("yard", 6), lambda book: None,
        ]
        for at, one_told in enumerate(told):
            for number, other_told in enumerate(told):
                one, other = with_deeds(run("ann", 50, 3), run("bob", 50, 3)), with_deeds(
                    run("ann", 50, 3), run("bob", 50, 3))
                one_told(one)
                other_told(other)
                check_equal(self, at == number, one, other)

    def test_other_papers_in_another_order(self):
        pairs = [
            (lambda book: book.strike(0, 5), lambda book: book.restore(0, 5)),
            (lambda book: book.strike(0, 5), lambda book: book.strike(1, 5)),
            (lambda book: book.strike(0, 5), lambda book: book.measure("yard", 4, 6, 5)),
            (lambda book: book.uphold("yard", 5), lambda book: book.measure("yard", 4, 6, 5)),
            (lambda book: book.restore(0, 7), lambda book: book.uphold("yard", 5)),
        ]
        for first, then in pairs:
            one, other = with_deeds(run("ann", 50, 3), run("bob", 50, 3)), with_deeds(
                run("ann", 50, 3), run("bob", 50, 3))
            first(one)
            then(one)
            then(other)
            first(other)
            check_equal(self, False, one, other)
            other.undo()
            other.undo()
            first(other)
            check_equal(self, False, one, other)
            then(other)
            check_equal(self, True, one, other)

    def test_how_people_deeds_and_other_papers_stand_among_each_other(self):
        one, other = Book((RUN,)), Book((RUN,))
        one.enrol(Person("ann", 0))
        one.tell(run("ann", 50, 3))
        one.strike(0, 5)
        one.tell(run("ann", 51, 3))
        one.measure("yard", 3, 3, 3)
        one.enrol(Person("bob", 0))
        other.enrol(Person("bob", 0))
        other.enrol(Person("ann", 0))
        other.tell(run("ann", 50, 3))
        other.tell(run("ann", 51, 3))
        other.strike(0, 5)
        other.measure("yard", 3, 3, 3)
        check_equal(self, True, one, other)

    def test_papers_that_turn_nothing_are_papers(self):
        one, other = busy(), busy()
        one.measure("zzz", 1, 1, 1)
        check_equal(self, False, one, other)
        self.assertEqual(answers(one), answers(other))

    def test_beside_what_is_no_book(self):
        for book in (Book((("run", "less", False),)), empty(), busy()):
            for thing in but(Book) + [book.events, len(book), repr(book)]:
                check_equal(self, False, book, thing)
            check_equal(self, False, book, unittest.mock.Mock(events=book.events, rules=book.rules))


class Length(unittest.TestCase):

    def test_how_many_deeds(self):
        for many in (0, 1, 2, 50, 100):
            self.assertEqual(len(full(many)), many)

    def test_whatever_becomes_of_them(self):
        book = with_deeds(run("ann", 50, 3), run("bob", 50, 3, 0, 99))
        book.tell(put("ann", 5, 3), 40000)
        book.strike(0, 3)
        book.measure("yard", 3, 3, 3)
        self.assertEqual(len(book), 3)


class Unchanged(unittest.TestCase):

    def test_what_is_handed_in(self):
        events, rules = (RUN, PUT), Rules((12, 16))
        person, deed = Person("ann", 5), run("ann", 50, 6)
        book = Book(events, rules)
        book.enrol(person)
        book.tell(deed, 7)
        book.strike(0, 8)
        answers(book)
        book.undo()
        self.assertEqual(events, (RUN, PUT))
        self.assertEqual(repr(rules), "Rules(limits=(12, 16), up=True, wind=20, shares=True)")
        self.assertEqual(repr(person), "Person('ann', 5, 'open', '')")
        self.assertEqual(repr(deed), "Deed('ann', 'run', 50, 6, 0, 0, 'yard')")

    def test_asking_changes_nothing(self):
        book = busy()
        was = answers(book)
        for _ in range(2):
            self.assertEqual(answers(book), was)
        self.assertTrue(book == busy())
        self.assertEqual(len(unmade(book)), 16)

    def test_what_is_told_is_the_askers_own(self):
        book = busy()
        was = answers(book)
        for known in KNOWN:
            told = book.stints("run", None, None, known)
            told.append(None)
            told[0] = 7
            told.clear()
        for number in range(len(book)):
            told = book.bests_of(number)
            told.append(7)
            told[0] = None
            told.clear()
        self.assertEqual(answers(book), was)


if __name__ == "__main__":
    unittest.main()
