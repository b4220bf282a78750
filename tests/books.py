"""Books to test with, and all that a book tells."""

from bestsbook.book import Book
from bestsbook.deeds import Deed
from bestsbook.errors import NoUndo
from bestsbook.people import Person
from bestsbook.rules import Rules

RUN = ("run", "less", True)
PUT = ("put", "more", False)
HOP = ("hop", "more", True)
ROW = ("row", "less", False)
RULES = Rules((12, 16), True, 20, True)
KNOWN = (None, -40000, 0, 1, 2, 3, 4, 5, 6, 7, 8, 9, 10, 40000)


def people():
    """Ann, at day 0 of 13 years, bob of 16, cy of 11, dee born on day 2."""
    return [Person("ann", -13 * 365, "girls", "reds"), Person("bob", -16 * 365, "boys"),
            Person("cy", -11 * 365 - 300, "boys", "reds"), Person("dee", 2, "girls")]


def run(name, mark, day, hour=0, wind=0, course="yard"):
    """A deed in the run."""
    return Deed(name, "run", mark, day, hour, wind, course)


def put(name, mark, day, hour=0, wind=0, course="yard"):
    """A deed in the put."""
    return Deed(name, "put", mark, day, hour, wind, course)


def empty(rules=RULES):
    """A book of the run and the put with all people, and no deeds."""
    book = Book((RUN, PUT), rules)
    for person in people():
        book.enrol(person)
    return book


def with_deeds(*deeds):
    """Such a book, with deeds, each known from its own day."""
    book = empty()
    for deed in deeds:
        book.tell(deed)
    return book


def full(many=100):
    """Such a book with as many deeds, each unlike the others."""
    return with_deeds(*[run("ann", 1 + number, 3) for number in range(many)])


def busy():
    """A book with papers of each kind; the last one is none of people and deeds."""
    book = empty()
    book.tell(run("ann", 50, 1))
    book.tell(run("bob", 48, 2), 4)
    book.tell(put("ann", 900, 3, course="hill"))
    book.strike(0, 5)
    book.tell(run("ann", 48, 3, 2, 20))
    book.measure("hill", 2, 3, 6)
    book.tell(run("cy", 47, 3, 1, 21))
    book.restore(0, 7)
    book.uphold("hill", 8)
    book.tell(put("bob", 900, 4))
    book.measure("yard", 4, 9, 9)
    return book


def bests(book):
    """All bests of a book, and some of groups of nobody."""
    return [(event[0], group, place) for event in book.events for group in (None, "girls", "boys", "open")
            for place in (None, *range(len(book.rules)))]


def answers(book, days=KNOWN):
    """All that a book tells, as known on some days."""
    numbers = range(len(book))
    return (
        book.events, book.rules, len(book),
        [[book.state(number, known) for number in numbers] for known in days],
        [[book.stints(*best, known) for best in bests(book)] for known in days],
        [[book.holders(*best, day, None) for best in bests(book)] for day in days],
        [[book.why(number, *best) for best in bests(book)] for number in numbers],
        [book.bests_of(number) for number in numbers],
    )


def unmade(book):
    """What a book is after each of all its undoings: a list of books; the book itself stays."""
    books = [book.twin()]
    while True:
        other = books[-1].twin()
        try:
            other.undo()
        except NoUndo:
            return books
        books.append(other)
