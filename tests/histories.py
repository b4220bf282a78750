"""Books with many papers of all kinds, each with its model, made by chance from a seed."""

import random

from bestsbook.book import Book
from bestsbook.deeds import Deed
from bestsbook.errors import ClubError, Missing
from bestsbook.people import Person
from bestsbook.rules import Rules
from tests.books import PUT, RUN
from tests.model import Model

NAMES = ("ann", "bob", "cy", "dee")
GROUPS = ("girls", "boys")
COURSES = ("yard", "yards", "hill")


def rules_of(chance):
    return (chance.choice([(), (1,), (1, 2), (1, 2, 3, 4)]), chance.random() < 0.5, chance.randrange(3),
            chance.random() < 0.6)


def deed_of(chance):
    return (chance.choice(NAMES), chance.choice(("run", "run", "put")), chance.randrange(1, 7), chance.randrange(8),
            chance.randrange(2), chance.randrange(4), chance.choice(COURSES))


def paper_of(chance, many):
    """A paper as (word, what is handed in, known), of a book of as many deeds."""
    word = chance.choice(["tell"] * 6 + ["strike", "strike", "restore", "measure", "uphold"])
    if word == "tell" or not many:
        deed = deed_of(chance)
        return ("tell", deed, deed[3] + chance.choice((0, 0, 0, 1, 2, 4)))
    if word in ("strike", "restore"):
        return (word, chance.randrange(many), chance.randrange(10))
    if word == "uphold":
        return (word, chance.choice(COURSES), chance.randrange(10))
    since = chance.randrange(8)
    return (word, chance.choice(COURSES), since, since + chance.randrange(3), chance.randrange(10))


def tell(book, paper):
    """Tell a book a paper of a model."""
    if paper[0] == "enrol":
        return book.enrol(Person(*paper[1]))
    if paper[0] == "tell":
        return book.tell(Deed(*paper[1]), paper[2])
    return getattr(book, paper[0])(*paper[1:])


def history(seed, papers=30):
    """A book and its model, told the same papers, some of which were undone."""
    chance = random.Random(seed)
    rules = rules_of(chance)
    book, model = Book((RUN, PUT), Rules(*rules)), Model((RUN, PUT), *rules)
    for name in NAMES:
        person = (name, -chance.randrange(5) * 365 + chance.randrange(-8, 1), chance.choice(GROUPS), "")
        tell(book, ("enrol", person))
        model.history.append(("enrol", person))
    for _ in range(papers):
        paper = paper_of(chance, len(book))
        try:
            told = tell(book, paper)
        except (ClubError, Missing):
            continue
        if paper[0] == "tell" and told != len(model.deeds()):
            raise AssertionError("a deed has the wrong number")
        model.history.append(paper)
        if chance.random() < 0.1:
            book.undo()
            model.history.pop()
    return book, model
