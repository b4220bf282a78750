"""What is there as known on a day, and how a deed stands: 6.2."""

import unittest

from bestsbook.book import Book
from bestsbook.deeds import Deed
from bestsbook.errors import Gone, NoDay
from bestsbook.people import Person
from bestsbook.rules import Rules
from tests.books import HOP, PUT, RULES, RUN, busy, empty, full, put, run, with_deeds
from tests.things import but_days, but_numbers, refusal


def words(book, number=0, days=range(10)):
    """The words of a deed, as known on some days, without those alike side by side: [(first day, word)]."""
    told = []
    for day in days:
        word = book.state(number, day)
        if not told or told[-1][1] != word:
            told.append((day, word))
    return told


class Words(unittest.TestCase):

    def test_good(self):
        book = with_deeds(run("ann", 50, 3))
        self.assertEqual(book.state(0), "good")
        self.assertEqual(book.state(0, None), "good")
        self.assertEqual(book.state(number=0), "good")
        self.assertEqual(book.state(known=3, number=0), "good")
        self.assertIs(type(book.state(0)), str)

    def test_untold(self):
        book = empty()
        book.tell(run("ann", 50, 3))
        book.tell(run("bob", 50, 3), 7)
        book.tell(run("cy", 50, 3), 40000)
        book.tell(run("ann", 50, -5))
        self.assertEqual(words(book, 0), [(0, "untold"), (3, "good")])
        self.assertEqual(words(book, 1), [(0, "untold"), (7, "good")])
        self.assertEqual(words(book, 2, (-40000, 3, 39999, 40000)), [(-40000, "untold"), (40000, "good")])
        self.assertEqual(words(book, 3, (-40000, -6, -5, 0)), [(-40000, "untold"), (-5, "good")])
        self.assertEqual([book.state(number) for number in range(4)], ["good"] * 4)

    def test_struck(self):
        book = with_deeds(run("ann", 50, 3))
        book.strike(0, 5)
        self.assertEqual(words(book), [(0, "untold"), (3, "good"), (5, "struck")])
        self.assertEqual(book.state(0), "struck")
        self.assertEqual(book.state(0, 40000), "struck")

    def test_course(self):
        book = with_deeds(run("ann", 50, 3))
        book.measure("yard", 3, 3, 5)
        self.assertEqual(words(book), [(0, "untold"), (3, "good"), (5, "course")])
        self.assertEqual(book.state(0), "course")

    def test_wind(self):
        for wind, word in ((-99, "good"), (19, "good"), (20, "good"), (21, "wind"), (99, "wind")):
            book = with_deeds(run("ann", 50, 3, wind=wind))
            self.assertEqual(words(book), [(0, "untold"), (3, word)])
            self.assertEqual(book.state(0), word)

    def test_wind_matters_where_the_event_is_windy_alone(self):
        book = Book((RUN, PUT, HOP), RULES)
        book.enrol(Person("ann", 0))
        for event in ("run", "put", "hop"):
            book.tell(Deed("ann", event, 50, 3, 0, 21))
        self.assertEqual([book.state(number) for number in range(3)], ["wind", "good", "wind"])

    def test_the_rules_wind(self):
        for most in (-99, -5, 0, 98, 99):
            for wind in (-99, -6, -5, -4, 0, 1, 98, 99):
                book = empty(Rules((), True, most, True))
                book.tell(run("ann", 50, 3, wind=wind))
                self.assertEqual(book.state(0), "wind" if wind > most else "good")

    def test_each_ahead_of_the_next_one(self):
        book = empty()
        book.tell(run("ann", 50, 3, wind=30), 4)
        told = [book.state(0, 4)]
        book.measure("yard", 0, 9, 0)
        told.append(book.state(0, 4))
        book.strike(0, 0)
        told.append(book.state(0, 4))
        told.append(book.state(0, 3))
        self.assertEqual(told, ["wind", "course", "struck", "untold"])

    def test_each_pair_of_two_due_at_once(self):
        def word(late, struck, measured, wind):
            book = empty()
            book.tell(run("ann", 50, 3, wind=wind), 8 if late else 3)
            if struck:
                book.strike(0, 2)
            if measured:
                book.measure("yard", 3, 3, 1)
            return book.state(0, 5)

        for late in (False, True):
            for struck in (False, True):
                for measured in (False, True):
                    for wind in (0, 21):
                        expected = ("untold" if late else "struck" if struck else "course" if measured
                                    else "wind" if wind else "good")
                        self.assertEqual(word(late, struck, measured, wind), expected)


class Struck(unittest.TestCase):

    def test_the_last_one_counts(self):
        book = with_deeds(run("ann", 50, 0))
        for call, known in ((book.strike, 1), (book.restore, 3), (book.strike, 5), (book.strike, 6), (book.restore, 8)):
            call(0, known)
        self.assertEqual(words(book), [(0, "good"), (1, "struck"), (3, "good"), (5, "struck"), (8, "good")])
        self.assertEqual(book.state(0), "good")

    def test_told_in_another_order_than_known(self):
        book = with_deeds(run("ann", 50, 0))
        for call, known in ((book.restore, 8), (book.strike, 6), (book.strike, 1), (book.strike, 5), (book.restore, 3)):
            call(0, known)
        self.assertEqual(words(book), [(0, "good"), (1, "struck"), (3, "good"), (5, "struck"), (8, "good")])
        self.assertEqual(book.state(0), "good")

    def test_told_last_but_known_earlier(self):
        book = with_deeds(run("ann", 50, 0))
        book.strike(0, 6)
        book.restore(0, 4)
        self.assertEqual(words(book), [(0, "good"), (6, "struck")])
        book.restore(0, 7)
        book.strike(0, 5)
        self.assertEqual(words(book), [(0, "good"), (5, "struck"), (7, "good")])

    def test_those_of_one_day_as_they_were_told(self):
        book = with_deeds(run("ann", 50, 0))
        expected = []
        for call, word in ((book.strike, "struck"), (book.restore, "good"), (book.restore, "good"),
                           (book.strike, "struck"), (book.strike, "struck"), (book.restore, "good")):
            call(0, 4)
            expected.append(word)
            self.assertEqual(book.state(0, 4), word)
            self.assertEqual(book.state(0), word)
            self.assertEqual(book.state(0, 3), "good")
        while expected:
            self.assertEqual(book.state(0), expected.pop())
            book.undo()
        self.assertEqual(book.state(0), "good")

    def test_restored_without_a_striking(self):
        book = with_deeds(run("ann", 50, 0))
        book.restore(0, 4)
        self.assertEqual(words(book), [(0, "good")])
        book.strike(0, 2)
        self.assertEqual(words(book), [(0, "good"), (2, "struck"), (4, "good")])

    def test_known_ahead_of_the_deed(self):
        book = empty()
        book.tell(run("ann", 50, 3), 6)
        book.strike(0, -40000)
        self.assertEqual(words(book), [(0, "untold"), (6, "struck")])
        book.restore(0, 5)
        self.assertEqual(words(book), [(0, "untold"), (6, "good")])
        book.strike(0, 4)
        self.assertEqual(words(book), [(0, "untold"), (6, "good")])
        book.restore(0, 8)
        book.strike(0, 5)
        self.assertEqual(words(book), [(0, "untold"), (6, "struck"), (8, "good")])

    def test_a_restoring_leaves_what_else_is_due(self):
        book = with_deeds(run("ann", 50, 3, wind=30))
        book.strike(0, 4)
        book.restore(0, 5)
        self.assertEqual(words(book), [(0, "untold"), (3, "wind"), (4, "struck"), (5, "wind")])


class Measured(unittest.TestCase):

    def test_from_the_first_day_to_the_last(self):
        days = range(2, 9)
        book = with_deeds(*[run("ann", 50, day, 23) for day in days])
        book.measure("yard", 4, 6, 9)
        self.assertEqual([book.state(number) for number in range(7)],
                         ["good", "good", "course", "course", "course", "good", "good"])
        book.undo()
        book.measure("yard", 5, 5, 9)
        self.assertEqual([book.state(number) for number in range(7)],
                         ["good", "good", "good", "course", "good", "good", "good"])

    def test_from_the_first_of_all_days_to_the_last(self):
        book = Book((RUN,))
        book.enrol(Person("ann", -40000))
        for day in (-40000, 0, 40000):
            book.tell(run("ann", 50, day))
        book.measure("yard", -40000, 40000, 40000)
        self.assertEqual([book.state(number, 40000) for number in range(3)], ["course"] * 3)
        self.assertEqual([book.state(number, 39999) for number in range(3)], ["good", "good", "untold"])

    def test_deeds_of_all_events_and_people(self):
        book = with_deeds(run("ann", 50, 3), put("bob", 9, 3))
        book.measure("yard", 3, 3, 3)
        self.assertEqual([book.state(number) for number in range(2)], ["course", "course"])

    def test_a_deed_told_behind_the_measuring(self):
        book = empty()
        book.measure("yard", 3, 3, 3)
        book.tell(run("ann", 50, 3))
        self.assertEqual(book.state(0), "course")

    def test_courses_of_which_one_begins_like_another(self):
        courses = ("yard", "yards", "yar", "y", "dyard", "hill")
        for measured in courses:
            book = with_deeds(*[run("ann", 50, 3, course=course) for course in courses])
            book.measure(measured, 3, 3, 3)
            self.assertEqual([book.state(number) for number in range(6)],
                             ["course" if course == measured else "good" for course in courses])
            for other in courses:
                if other != measured:
                    book.uphold(other, 9)
            self.assertEqual(book.state(courses.index(measured)), "course")
            book.uphold(measured, 9)
            self.assertEqual([book.state(number) for number in range(6)], ["good"] * 6)

    def test_several_measurings(self):
        book = with_deeds(*[run("ann", 50, day) for day in range(5)])
        book.measure("yard", 3, 4, 9)
        book.measure("yard", 0, 1, 8)
        self.assertEqual([book.state(number) for number in range(5)], ["course", "course", "good", "course", "course"])
        self.assertEqual([book.state(number, 8) for number in range(5)], ["course", "course", "good", "good", "good"])
        book.measure("yard", 1, 3, 9)
        self.assertEqual([book.state(number) for number in range(5)], ["course"] * 5)

    def test_an_upholding_ends_all_ahead_of_it(self):
        book = with_deeds(*[run("ann", 50, day) for day in range(5)])
        book.measure("yard", 0, 1, 5)
        book.measure("yard", 3, 4, 6)
        book.uphold("yard", 7)
        self.assertEqual([book.state(number) for number in range(5)], ["good"] * 5)
        self.assertEqual([book.state(number, 6) for number in range(5)],
                         ["course", "course", "good", "course", "course"])
        book.measure("yard", 2, 2, 8)
        self.assertEqual([book.state(number) for number in range(5)], ["good", "good", "course", "good", "good"])

    def test_the_last_upholding_counts(self):
        book = with_deeds(run("ann", 50, 0))
        for call, *values in ((book.measure, "yard", 0, 0, 1), (book.uphold, "yard", 3), (book.measure, "yard", 0, 0, 5),
                              (book.uphold, "yard", 7), (book.uphold, "yard", 8)):
            call(*values)
        self.assertEqual(words(book), [(0, "good"), (1, "course"), (3, "good"), (5, "course"), (7, "good")])

    def test_told_in_another_order_than_known(self):
        book = with_deeds(run("ann", 50, 0))
        for call, *values in ((book.uphold, "yard", 8), (book.uphold, "yard", 7), (book.measure, "yard", 0, 0, 5),
                              (book.measure, "yard", 0, 0, 1), (book.uphold, "yard", 3)):
            call(*values)
        self.assertEqual(words(book), [(0, "good"), (1, "course"), (3, "good"), (5, "course"), (7, "good")])

    def test_upheld_from_an_elder_day_than_measured(self):
        book = with_deeds(run("ann", 50, 0))
        book.measure("yard", 0, 0, 6)
        book.uphold("yard", 5)
        self.assertEqual(words(book), [(0, "good"), (6, "course")])
        book.uphold("yard", 6)
        self.assertEqual(words(book), [(0, "good")])

    def test_those_of_one_day_as_they_were_told(self):
        book = with_deeds(run("ann", 50, 0))
        book.uphold("yard", 4)
        self.assertEqual(book.state(0), "good")
        book.measure("yard", 0, 0, 4)
        self.assertEqual(book.state(0), "course")
        book.uphold("yard", 4)
        self.assertEqual(book.state(0), "good")
        book.measure("yard", 0, 0, 4)
        book.measure("yard", 1, 1, 4)
        self.assertEqual(book.state(0), "course")
        self.assertEqual(words(book), [(0, "good"), (4, "course")])

    def test_struck_and_measured(self):
        book = with_deeds(run("ann", 50, 0))
        book.strike(0, 2)
        book.measure("yard", 0, 0, 4)
        book.restore(0, 6)
        book.uphold("yard", 8)
        self.assertEqual(words(book), [(0, "good"), (2, "struck"), (6, "course"), (8, "good")])


class AsKnown(unittest.TestCase):

    def test_on_the_day_and_a_day_ahead(self):
        for known in (1, 5, 39999):
            book = with_deeds(run("ann", 50, 0))
            book.strike(0, known)
            self.assertEqual([book.state(0, day) for day in (known - 1, known, known + 1)], ["good", "struck", "struck"])
            book = with_deeds(run("ann", 50, 0))
            book.measure("yard", 0, 0, known)
            self.assertEqual([book.state(0, day) for day in (known - 1, known, known + 1)], ["good", "course", "course"])

    def test_none_stands_for_all(self):
        book = with_deeds(run("ann", 50, 0))
        book.strike(0, 40000)
        self.assertEqual([book.state(0, day) for day in (39999, 40000, None)], ["good", "struck", "struck"])

    def test_a_book_of_all_kinds(self):
        book = busy()
        days = (0, 1, 2, 3, 4, 5, 6, 7, 8, 9, None)
        expected = [
            ["untold"] + ["good"] * 4 + ["struck"] * 2 + ["good"] * 4,
            ["untold"] * 4 + ["good"] * 7,
            ["untold"] * 3 + ["good"] * 3 + ["course"] * 2 + ["good"] * 3,
            ["untold"] * 3 + ["good"] * 8,
            ["untold"] * 3 + ["wind"] * 8,
            ["untold"] * 4 + ["good"] * 5 + ["course"] * 2,
        ]
        self.assertEqual([[book.state(number, day) for day in days] for number in range(6)], expected)


class Refused(unittest.TestCase):

    def test_no_such_number(self):
        for many in (0, 1, 4, 100):
            book = full(many)
            for thing in but_numbers(0, many - 1) + [many, -1, -many, "0"]:
                for known in (None, 3, 40001, "x"):
                    self.assertEqual(refusal(book.state, thing, known), (Gone, thing), repr(thing)[:80])
                self.assertEqual(refusal(book.state, thing), (Gone, thing))
                self.assertEqual(refusal(book.state, known=3, number=thing), (Gone, thing))

    def test_a_deed_that_is_undone(self):
        book = with_deeds(run("ann", 50, 3), run("ann", 51, 3))
        self.assertEqual(book.state(1), "good")
        book.undo()
        self.assertEqual(refusal(book.state, 1), (Gone, 1))

    def test_known_is_no_day(self):
        book = busy()
        for thing in but_days():
            if thing is not None:
                self.assertEqual(refusal(book.state, 0, thing), (NoDay, None), repr(thing)[:80])
                self.assertEqual(refusal(book.state, known=thing, number=0), (NoDay, None))


if __name__ == "__main__":
    unittest.main()
