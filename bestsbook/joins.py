"""Books made of books: two groups merged, two books joined."""

from bestsbook.book import MOST_DEEDS_OF_BOOK, check_book, check_name
from bestsbook.errors import Full, Unlike
from bestsbook.people import Person


def merged(book, one, other):
    """Tell another book, in which all people of the group other are of the group one."""
    check_book(book)
    check_name(one)
    check_name(other)
    people = [moved(person, one) if person.group == other else person for person in book.people()]
    return book.filled(people, book.told(), book.papers())


def moved(person, group):
    """Tell a person who is alike, but of a group."""
    return Person(person.name, person.born, group, person.team)


def joined(book, other):
    """Tell a book with what stands in both, and the names of which they have unequal people."""
    check_book(book)
    check_book(other)
    if book.events != other.events or book.rules != other.rules:
        raise Unlike("books that are joined have equal events and rules")
    clashes = clashing_names(book, other)
    told = book.told() + new_deeds(book, other, clashes)
    if len(told) > MOST_DEEDS_OF_BOOK:
        raise Full("a book has at most a hundred deeds")
    papers = book.papers() + renumbered(other.papers(), new_numbers(told, other, clashes))
    return (book.filled(book.people() + new_people(book, other), told, papers), clashes)


def clashing_names(book, other):
    """Tell the rising list of the names of which two books have people who are not equal."""
    there = {person.name: person for person in book.people()}
    return sorted([person.name for person in other.people() if there.get(person.name, person) != person])


def new_people(book, other):
    """Tell the list of the other book's people of names that the first one has not."""
    names = [person.name for person in book.people()]
    return [person for person in other.people() if person.name not in names]


def new_deeds(book, other, clashes):
    """Tell the list of (deed, known) of the other book that go behind those of the first one."""
    there = [deed for deed, _ in book.told()]
    return [(deed, known) for deed, known in other.told() if deed.name not in clashes and deed not in there]


def new_numbers(told, other, clashes):
    """Tell a dict of the numbers of the other book's deeds: for each that of the equal deed among those told."""
    deeds = [deed for deed, _ in told]
    numbers = {}
    for number, (deed, _) in enumerate(other.told()):
        if deed.name not in clashes:
            numbers[number] = deeds.index(deed)
    return numbers


def renumbered(papers, numbers):
    """Tell the list of the papers under new numbers, without those of deeds that have none."""
    kept = []
    for paper in papers:
        if paper[0] in ("measure", "uphold"):
            kept.append(paper)
        elif paper[1] in numbers:
            kept.append((paper[0], numbers[paper[1]], paper[2]))
    return kept
