"""Groups merged, books joined: 7.1 and 7.2."""

import unittest

from bestsbook.book import Book
from bestsbook.errors import Clash, Full, NoBook, NoName, NoUndo, Unknown, Unlike
from bestsbook.joins import joined, merged
from bestsbook.marks import best_of
from bestsbook.people import Person
from bestsbook.rules import Rules
from tests.books import PUT, RULES, RUN, answers, bests, busy, empty, full, people, put, run, unmade, with_deeds
from tests.histories import history
from tests.things import but, but_names, refusal, refused


def enrolled(*persons):
    """A book of the run and the put with these people."""
    book = Book((RUN, PUT), RULES)
    for person in persons:
        book.enrol(person)
    return book


class Merged(unittest.TestCase):

    def groups(self, book):
        """The group of each of those people in a book, by whose bests each of them is found."""
        told = {}
        for person in people():
            twin = book.twin()
            number = twin.tell(run(person.name, 7, 20))
            told[person.name] = [group for group in ("girls", "boys", "open", "all")
                                 if twin.why(number, "run", group) != ("other",)]
        return told

    def test_all_of_the_second_group_are_of_the_first(self):
        self.assertEqual(self.groups(empty()), {"ann": ["girls"], "bob": ["boys"], "cy": ["boys"], "dee": ["girls"]})
        self.assertEqual(self.groups(merged(empty(), "girls", "boys")), dict.fromkeys(
            ("ann", "bob", "cy", "dee"), ["girls"]))
        self.assertEqual(self.groups(merged(empty(), "boys", "girls")), dict.fromkeys(
            ("ann", "bob", "cy", "dee"), ["boys"]))
        self.assertEqual(self.groups(merged(empty(), "all", "boys")), {
            "ann": ["girls"], "bob": ["all"], "cy": ["all"], "dee": ["girls"]})
        self.assertEqual(self.groups(merged(other="girls", one="open", book=empty())), {
            "ann": ["open"], "bob": ["boys"], "cy": ["boys"], "dee": ["open"]})

    def test_people_stay_as_they_are_but_for_the_group(self):
        book = merged(empty(), "all", "boys")
        for person in (Person("ann", -13 * 365, "girls", "reds"), Person("bob", -16 * 365, "all"),
                       Person("cy", -11 * 365 - 300, "all", "reds"), Person("dee", 2, "girls")):
            was = book.twin()
            self.assertIsNone(book.enrol(person))
            self.assertTrue(book == was)
        for person in people()[1:3]:
            self.assertIs(refused(book.enrol, person), Clash)

    def test_a_group_of_nobody(self):
        for one, other in (("girls", "open"), ("open", "all"), ("girls", "girl"), ("boys", "ann")):
            book = merged(busy(), one, other)
            self.assertIsNot(book, busy())
            self.assertTrue(book == busy())
            self.assertEqual(answers(book), answers(busy()))

    def test_the_same_group_twice(self):
        for group in ("girls", "boys", "open"):
            book = merged(busy(), group, group)
            self.assertTrue(book == busy())
            self.assertEqual(answers(book), answers(busy()))
            self.assertIs(refused(book.undo), NoUndo)

    def test_an_empty_book(self):
        book = merged(Book((RUN, PUT), RULES), "girls", "boys")
        self.assertTrue(book == Book((RUN, PUT), RULES))

    def test_the_rest_as_it_is(self):
        first = busy()
        book = merged(first, "girls", "boys")
        self.assertIsInstance(book, Book)
        self.assertEqual(book.events, first.events)
        self.assertTrue(book.rules == first.rules)
        self.assertEqual(len(book), len(first))
        for known in (None, *range(10)):
            self.assertEqual([book.state(number, known) for number in range(6)],
                             [first.state(number, known) for number in range(6)])
            for event in ("run", "put"):
                for place in (None, 0, 1, 2):
                    self.assertEqual(book.stints(event, None, place, known), first.stints(event, None, place, known))
                    self.assertEqual(book.stints(event, "girls", place, known), first.stints(event, None, place, known))
                    self.assertEqual(book.stints(event, "boys", place, known), [])

    def test_the_book_that_is_told_of_those_people(self):
        # As if all had been of that group from the first on.
        other = Book((RUN, PUT), RULES)
        for person in people():
            other.enrol(Person(person.name, person.born, "girls", person.team))
        for number, (deed, known) in enumerate(busy().told()):
            self.assertEqual(other.tell(deed, known), number)
        other.strike(0, 5)
        other.measure("hill", 2, 3, 6)
        other.restore(0, 7)
        other.uphold("hill", 8)
        other.measure("yard", 4, 9, 9)
        self.assertTrue(merged(busy(), "girls", "boys") == other)

    def test_nothing_to_undo_but_what_is_told_then(self):
        book = merged(busy(), "girls", "boys")
        was = book.twin()
        self.assertIs(refused(book.undo), NoUndo)
        self.assertEqual(book.tell(run("ann", 1, 9)), 6)
        book.strike(6, 9)
        self.assertIs(refused(book.twin().undo), None)
        book.undo()
        book.undo()
        self.assertIs(refused(book.undo), NoUndo)
        self.assertIs(refused(book.twin().undo), NoUndo)
        self.assertTrue(book == was)

    def test_the_first_one_as_it_was(self):
        first = busy()
        book = merged(first, "girls", "boys")
        book.tell(run("bob", 1, 9))
        book.strike(0, 9)
        book.enrol(Person("zed", 0))
        self.assertTrue(first == busy())
        self.assertEqual(answers(first), answers(busy()))
        self.assertEqual(len(unmade(first)), 16)
        first.undo()
        first.tell(run("ann", 1, 9))
        self.assertEqual(len(book), 7)
        # The measuring that is undone in the first one stands in the other.
        self.assertEqual(book.state(6), "course")

    def test_each_best_is_the_better_of_the_two_ahead(self):
        for seed in range(20):
            first, _ = history(seed)
            book = merged(first, "girls", "boys")
            for event, way in (("run", "less"), ("put", "more")):
                for place in range(len(first.rules)):
                    for day in (None, 3, 6):
                        held = [first.holders(event, group, place, day) for group in ("girls", "boys")]
                        marks = [one[0] for one in held if one is not None]
                        now = book.holders(event, "girls", place, day)
                        self.assertEqual(now and now[0], best_of(marks, way))

    def test_no_book(self):
        for thing in but(Book) + [[busy()], people()[0]]:
            for names in (("girls", "boys"), ("Girls", 7), (None, None)):
                self.assertIs(refused(merged, thing, *names), NoBook, repr(thing)[:80])
            self.assertIs(refused(merged, other="", one="girls", book=thing), NoBook)

    def test_no_names(self):
        book = busy()
        for thing in but_names():
            self.assertEqual(refusal(merged, book, thing, "girls"), (NoName, None), repr(thing)[:80])
            self.assertEqual(refusal(merged, book, "girls", thing), (NoName, None))
            self.assertEqual(refusal(merged, book, thing, thing), (NoName, None))
        self.assertTrue(book == busy())


class Joined(unittest.TestCase):

    def test_a_tuple_of_a_book_and_a_list(self):
        told = joined(empty(), empty())
        self.assertIs(type(told), tuple)
        book, clashes = told
        self.assertIsInstance(book, Book)
        self.assertEqual(clashes, [])
        self.assertIs(type(clashes), list)

    def test_with_an_empty_one(self):
        for first, other in ((busy(), empty()), (empty(), busy()), (busy(), Book((RUN, PUT), RULES)),
                             (Book((RUN, PUT), RULES), busy())):
            book, clashes = joined(first, other)
            self.assertTrue(book == busy())
            self.assertEqual(answers(book), answers(busy()))
            self.assertEqual(clashes, [])

    def test_people_of_both(self):
        ann, bob, cy, dee = people()
        book, clashes = joined(enrolled(ann, bob), enrolled(cy, bob, dee))
        self.assertEqual(clashes, [])
        self.assertTrue(book == enrolled(ann, bob, cy, dee))

    def test_clashes_are_rising_and_the_first_ones_stay(self):
        first = enrolled(Person("bob", 1), Person("dee", 1), Person("ann", 1), Person("cy", 1))
        other = enrolled(Person("dee", 2), Person("ann", 1, "girls"), Person("cy", 1), Person("bob", 1, "open", "reds"),
                         Person("zed", 4))
        book, clashes = joined(other=other, book=first)
        self.assertEqual(clashes, ["ann", "bob", "dee"])
        self.assertTrue(book == enrolled(Person("ann", 1), Person("bob", 1), Person("cy", 1), Person("dee", 1),
                                         Person("zed", 4)))
        book, clashes = joined(other, first)
        self.assertEqual(clashes, ["ann", "bob", "dee"])
        self.assertTrue(book == enrolled(Person("dee", 2), Person("ann", 1, "girls"), Person("cy", 1),
                                         Person("bob", 1, "open", "reds"), Person("zed", 4)))

    def test_deeds_of_both_behind_each_other(self):
        first = with_deeds(run("ann", 50, 3), run("bob", 51, 2))
        other = with_deeds(run("cy", 52, 1), put("ann", 9, 1), run("bob", 53, 4))
        book, _ = joined(first, other)
        self.assertTrue(book == with_deeds(run("ann", 50, 3), run("bob", 51, 2), run("cy", 52, 1), put("ann", 9, 1),
                                           run("bob", 53, 4)))
        self.assertEqual(len(book), 5)

    def test_deeds_known_from_the_same_days(self):
        first, other, both = empty(), empty(), empty()
        for book in (first, both):
            book.tell(run("ann", 50, 3), 7)
        for book in (other, both):
            book.tell(run("bob", 50, 3), 9)
            book.tell(run("bob", 51, 3), 3)
        self.assertTrue(joined(first, other)[0] == both)

    def test_deeds_that_both_have(self):
        first, other, both = empty(), empty(), empty()
        for book in (first, both):
            book.tell(run("ann", 50, 3), 7)
            book.tell(run("cy", 50, 3), 4)
        other.tell(run("bob", 50, 3), 9)
        other.tell(run("cy", 50, 3), 8)
        other.tell(run("dee", 50, 3))
        other.tell(run("ann", 50, 3), 3)
        both.tell(run("bob", 50, 3), 9)
        both.tell(run("dee", 50, 3))
        book, clashes = joined(first, other)
        self.assertTrue(book == both)
        self.assertEqual(clashes, [])
        # The first one's days stay, be they earlier or later.
        self.assertEqual([[book.state(number, known) for known in (3, 4, 7)] for number in (0, 1)],
                         [["untold", "untold", "good"], ["untold", "good", "good"]])

    def test_papers_of_new_deeds(self):
        first = with_deeds(run("ann", 50, 3), run("ann", 51, 3))
        other = with_deeds(run("bob", 50, 3), run("bob", 51, 3))
        first.strike(1, 5)
        other.strike(1, 4)
        other.strike(0, 6)
        other.restore(1, 7)
        both = with_deeds(run("ann", 50, 3), run("ann", 51, 3), run("bob", 50, 3), run("bob", 51, 3))
        both.strike(1, 5)
        both.strike(3, 4)
        both.strike(2, 6)
        both.restore(3, 7)
        self.assertTrue(joined(first, other)[0] == both)

    def test_papers_of_deeds_that_both_have(self):
        first = with_deeds(run("ann", 50, 3), run("bob", 50, 3), run("cy", 50, 3))
        other = with_deeds(run("dee", 50, 3), run("cy", 50, 3), run("ann", 50, 3))
        first.strike(0, 5)
        other.restore(2, 5)
        other.strike(1, 6)
        other.strike(0, 7)
        both = with_deeds(run("ann", 50, 3), run("bob", 50, 3), run("cy", 50, 3), run("dee", 50, 3))
        both.strike(0, 5)
        both.restore(0, 5)
        both.strike(2, 6)
        both.strike(3, 7)
        book, _ = joined(first, other)
        self.assertTrue(book == both)
        self.assertEqual([book.state(number) for number in range(4)], ["good", "good", "struck", "struck"])
        # The other way about the first one's striking stands behind the restoring.
        self.assertEqual([joined(other, first)[0].state(number) for number in range(4)],
                         ["struck", "struck", "struck", "good"])

    def test_papers_of_courses(self):
        first, other, both = with_deeds(run("ann", 50, 3)), with_deeds(run("bob", 50, 3)), with_deeds(
            run("ann", 50, 3), run("bob", 50, 3))
        for book in (first, both):
            book.measure("yard", 3, 3, 5)
            book.uphold("hill", 5)
        for book in (other, both):
            book.uphold("yard", 5)
            book.measure("hill", 1, 9, 2)
            book.measure("yard", 4, 4, 1)
        self.assertTrue(joined(first, other)[0] == both)
        self.assertEqual([joined(first, other)[0].state(number) for number in (0, 1)], ["good", "good"])
        self.assertEqual([joined(other, first)[0].state(number) for number in (0, 1)], ["course", "course"])

    def test_other_papers_in_their_order(self):
        first, other, both = with_deeds(run("ann", 50, 3)), with_deeds(run("bob", 50, 3)), with_deeds(
            run("ann", 50, 3), run("bob", 50, 3))
        other.measure("yard", 3, 3, 5)
        both.measure("yard", 3, 3, 5)
        other.strike(0, 5)
        both.strike(1, 5)
        other.uphold("yard", 5)
        both.uphold("yard", 5)
        other.restore(0, 5)
        both.restore(1, 5)
        self.assertTrue(joined(first, other)[0] == both)

    def test_all_papers_even_equal_ones(self):
        book = busy()
        twice = busy()
        twice.strike(0, 5)
        twice.measure("hill", 2, 3, 6)
        twice.restore(0, 7)
        twice.uphold("hill", 8)
        twice.measure("yard", 4, 9, 9)
        for other in (busy(), book, book.twin()):
            told, clashes = joined(book, other)
            self.assertTrue(told == twice)
            self.assertEqual(clashes, [])
            self.assertEqual(len(told), 6)

    def test_deeds_left_out_with_what_speaks_of_them(self):
        first = enrolled(Person("ann", 0), Person("cy", 0))
        first.tell(run("ann", 50, 3))
        other = enrolled(Person("bob", 0), Person("ann", 1), Person("cy", 0))
        other.tell(run("ann", 51, 3, course="hill"))
        other.tell(run("bob", 51, 3))
        other.tell(run("ann", 52, 3))
        other.tell(run("cy", 53, 3, course="hill"))
        other.strike(0, 4)
        other.strike(3, 5)
        other.strike(2, 6)
        other.measure("hill", 3, 3, 7)
        other.restore(2, 8)
        other.strike(1, 9)
        both = enrolled(Person("ann", 0), Person("cy", 0), Person("bob", 0))
        both.tell(run("ann", 50, 3))
        both.tell(run("bob", 51, 3))
        both.tell(run("cy", 53, 3, course="hill"))
        both.strike(2, 5)
        both.measure("hill", 3, 3, 7)
        both.strike(1, 9)
        book, clashes = joined(first, other)
        self.assertEqual(clashes, ["ann"])
        self.assertTrue(book == both)

    def test_an_equal_deed_by_another_person_of_that_name(self):
        first, other = enrolled(Person("ann", 0)), enrolled(Person("ann", 1))
        first.tell(run("ann", 50, 3))
        other.tell(run("ann", 50, 3))
        other.strike(0, 5)
        book, clashes = joined(first, other)
        self.assertEqual(clashes, ["ann"])
        self.assertTrue(book == first)
        self.assertEqual(book.state(0), "good")

    def test_people_without_deeds_clash_too(self):
        first, other = enrolled(Person("ann", 0)), enrolled(Person("ann", 0, "girls"))
        book, clashes = joined(first, other)
        self.assertEqual(clashes, ["ann"])
        self.assertTrue(book == first)

    def test_nothing_to_undo_but_what_is_told_then(self):
        for first, other in ((busy(), empty()), (empty(), busy()), (busy(), busy())):
            book, _ = joined(first, other)
            was = book.twin()
            self.assertIs(refused(book.undo), NoUndo)
            self.assertEqual(book.tell(run("ann", 1, 9)), len(was))
            book.enrol(Person("zed", 0))
            book.undo()
            self.assertIs(refused(book.tell, run("zed", 1, 9)), Unknown)
            book.undo()
            self.assertIs(refused(book.undo), NoUndo)
            self.assertTrue(book == was)

    def test_both_stay_as_they_were(self):
        first, other = busy(), with_deeds(run("bob", 48, 2), run("dee", 9, 9))
        other.strike(1, 9)
        was = other.twin()
        book, clashes = joined(first, other)
        book.tell(run("ann", 1, 9))
        book.strike(0, 9)
        book.enrol(Person("zed", 0))
        clashes.append("zed")
        self.assertTrue(first == busy())
        self.assertEqual(answers(first), answers(busy()))
        self.assertEqual(len(unmade(first)), 16)
        self.assertTrue(other == was)
        self.assertEqual(len(unmade(other)), 8)
        self.assertEqual(joined(first, other)[1], [])
        first.undo()
        other.undo()
        self.assertEqual(len(book), 8)

    def test_a_book_with_itself(self):
        book = busy()
        joined(book, book)
        self.assertTrue(book == busy())
        self.assertEqual(len(unmade(book)), 16)

    def deeds(self, name, many):
        """A book with as many deeds of one name."""
        return with_deeds(*[run(name, 1 + number, 3) for number in range(many)])

    def test_a_hundred_deeds(self):
        for many in (0, 1, 49, 50, 99, 100):
            book, _ = joined(self.deeds("ann", many), self.deeds("bob", 100 - many))
            self.assertEqual(len(book), 100)
            self.assertIs(refused(book.tell, run("cy", 5, 3)), Full)

    def test_more_than_a_hundred_deeds(self):
        for many in (1, 50, 51, 99, 100):
            first, other = self.deeds("ann", many), self.deeds("bob", 101 - many)
            self.assertEqual(refusal(joined, first, other), (Full, None))
            self.assertEqual(refusal(joined, other, first), (Full, None))
            self.assertTrue(first == self.deeds("ann", many))
            self.assertTrue(other == self.deeds("bob", 101 - many))
        self.assertEqual(refusal(joined, full(), self.deeds("bob", 100)), (Full, None))

    def test_equal_deeds_and_those_left_out_are_not_counted(self):
        book, _ = joined(full(), full())
        self.assertTrue(book == full())
        book, _ = joined(full(99), full())
        self.assertTrue(book == full())
        first = enrolled(*people()[1:], Person("ann", 0))
        for number in range(100):
            first.tell(run("bob", 1 + number, 3))
        book, clashes = joined(first, full())
        self.assertEqual(clashes, ["ann"])
        self.assertTrue(book == first)

    def test_unlike_events_and_rules(self):
        book = busy()
        others = [Book((PUT, RUN), RULES), Book((RUN,), RULES), Book((RUN, ("put", "less", False)), RULES),
                  Book((RUN, ("put", "more", True)), RULES), Book((RUN, PUT)), Book((RUN, PUT), Rules((12, 16), False)),
                  Book((RUN, PUT), Rules((12, 16), True, 21)), Book((RUN, PUT), Rules((12, 16), True, 20, False))]
        for other in others:
            self.assertEqual(refusal(joined, book, other), (Unlike, None))
            self.assertEqual(refusal(joined, other, book), (Unlike, None))
            self.assertEqual(refusal(joined, other=other, book=book), (Unlike, None))
        self.assertTrue(book == busy())

    def test_unlike_ahead_of_full(self):
        other = Book((RUN, PUT), Rules())
        for person in people():
            other.enrol(person)
        for number in range(100):
            other.tell(run("bob", 1 + number, 3))
        self.assertEqual(refusal(joined, full(), other), (Unlike, None))

    def test_no_book(self):
        book = busy()
        for thing in but(Book) + [[busy()], (busy(), []), people()[0]]:
            self.assertEqual(refusal(joined, thing, book), (NoBook, None), repr(thing)[:80])
            self.assertEqual(refusal(joined, book, thing), (NoBook, None))
            self.assertEqual(refusal(joined, thing, Book((RUN,))), (NoBook, None))
            self.assertEqual(refusal(joined, other=thing, book=thing), (NoBook, None))
        self.assertTrue(book == busy())

    def test_each_best_is_told_of_the_deeds_of_both(self):
        for seed in range(0, 20, 2):
            first, _ = history(seed)
            other = Book(first.events, first.rules)
            for person in history(seed + 1)[0].people():
                other.enrol(person)
            for deed, known in history(seed + 1)[0].told():
                other.tell(deed, known)
            book, clashes = joined(first, other)
            both = first.twin()
            for deed, known in other.told():
                if deed.name not in clashes and deed not in [one for one, _ in first.told()]:
                    both.tell(deed, known)
            self.assertTrue(book == both)
            for best in bests(book):
                self.assertEqual(book.stints(*best), both.stints(*best))


if __name__ == "__main__":
    unittest.main()
