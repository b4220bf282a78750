"""Books: people, deeds and what is told of them, and the bests that come of it."""

from bestsbook.deeds import Deed
from bestsbook.errors import (
    Clash, Full, Gone, NoBook, NoClass, NoDay, NoDeed, NoEvent, NoEvents, NoName, NoPerson, NoRules, NoUndo, Unborn,
    Unknown,
)
from bestsbook.kinds import MOST_DAY, is_day, is_name, is_number_from
from bestsbook.marks import is_event
from bestsbook.papers import is_known, is_within, measured_spans, papers_known, struck_numbers
from bestsbook.people import Person
from bestsbook.rules import Rules
from bestsbook.stints import held_on, held_still, is_like, rows_by_time, stints_of, worst_better, worst_mark

MOST_EVENTS = 4
MOST_DEEDS_OF_BOOK = 100


def are_events(thing):
    """Tell whether a thing is a tuple of one to four events of unlike names."""
    if not isinstance(thing, tuple) or not 1 <= len(thing) <= MOST_EVENTS:
        return False
    # Each by itself first: what is no event has no name.
    if not all([is_event(event) for event in thing]):
        return False
    return len({event[0] for event in thing}) == len(thing)


def check_name(thing):
    """Refuse what is no name."""
    if not is_name(thing):
        raise NoName("a name is a text of 1 to 8 small letters")


def check_day(thing):
    """Refuse what is no day."""
    if not is_day(thing):
        raise NoDay("a day is a number from -40000 to 40000")


def check_day_or_none(thing):
    """Refuse what is neither None nor a day."""
    if thing is not None:
        check_day(thing)


class Book:
    """A club's book: its events and rules, and the papers told to it."""

    def __init__(self, events, rules=None):
        if not are_events(events):
            raise NoEvents("events is a tuple of one to four events of unlike names")
        if rules is None:
            rules = Rules()
        if not isinstance(rules, Rules):
            raise NoRules("rules is None or rules")
        self.events = events
        self.rules = rules
        self._people = {}
        self._deeds = []
        self._papers = []
        # Of each paper that can be undone, the last one last: whether it is a person, a deed or another one.
        self._undoable = []

    def __eq__(self, other):
        return (isinstance(other, Book) and self.events == other.events and self.rules == other.rules
                and self._people == other._people and self._deeds == other._deeds
                and self._papers == other._papers)

    def __len__(self):
        return len(self._deeds)

    def enrol(self, person):
        """Enrol a person."""
        if not isinstance(person, Person):
            raise NoPerson("who is enrolled is a person")
        there = self._people.get(person.name)
        if there is None:
            self._people[person.name] = person
            self._undoable.append("person")
        elif there != person:
            raise Clash("an unequal person of that name is enrolled")

    def tell(self, deed, known=None):
        """Take a deed, known from a day on, None standing for its own; tell its number."""
        if not isinstance(deed, Deed):
            raise NoDeed("what is told is a deed")
        check_day_or_none(known)
        if known is None:
            known = deed.day
        if known < deed.day:
            raise NoDay("a deed is known from its day or a later one on")
        self._check_deed(deed)
        self._deeds.append((deed, known))
        self._undoable.append("deed")
        return len(self._deeds) - 1

    def strike(self, number, known):
        """Take a deed out."""
        self._check_number(number)
        check_day(known)
        self._add_paper(("strike", number, known))

    def restore(self, number, known):
        """Take a deed in again."""
        self._check_number(number)
        check_day(known)
        self._add_paper(("restore", number, known))

    def measure(self, course, since, till, known):
        """Take all deeds on a course out that were done from one day to another."""
        check_name(course)
        check_day(since)
        check_day(till)
        check_day(known)
        if till < since:
            raise NoDay("till is since or a later day")
        self._add_paper(("measure", course, since, till, known))

    def uphold(self, course, known):
        """Let what was measured of a course count no more."""
        check_name(course)
        check_day(known)
        self._add_paper(("uphold", course, known))

    def undo(self):
        """Undo the last paper that stands."""
        if len(self._undoable) == 0:
            raise NoUndo("no paper stands that can be undone")
        kind = self._undoable.pop()
        if kind == "person":
            # A dict keeps its keys in the order in which they came.
            del self._people[list(self._people)[-1]]
        elif kind == "deed":
            self._deeds.pop()
        else:
            self._papers.pop()

    def twin(self):
        """Tell another book with all that stands and can be undone."""
        other = self.filled(self.people(), self.told(), self.papers())
        other._undoable = list(self._undoable)
        return other

    def filled(self, people, told, papers):
        """Tell another book of these events and rules, filled with what is handed in, and with nothing to undo."""
        other = Book(self.events, self.rules)
        other._people = {person.name: person for person in people}
        other._deeds = list(told)
        other._papers = list(papers)
        return other

    def people(self):
        """Tell the list of the people."""
        return list(self._people.values())

    def told(self):
        """Tell the list of (deed, known) of the deeds, by their numbers."""
        return list(self._deeds)

    def papers(self):
        """Tell the list of all papers but people and deeds, as they were told."""
        return list(self._papers)

    def state(self, number, known=None):
        """Tell the word for how a deed stands, as known on a day."""
        self._check_number(number)
        check_day_or_none(known)
        return self._words(known)[number]

    def stints(self, event, group=None, place=None, known=None):
        """Tell the list of the stints (number, name, mark, since, till) of a best, as known on a day."""
        self._check_best(event, group, place)
        check_day_or_none(known)
        return self._stints_of(event, self._rows(event, group, place, known))

    def is_stints(self, thing, event, group=None, place=None, known=None):
        """Tell whether a thing is the list that stints tells."""
        return is_like(thing, self.stints(event, group, place, known))

    def holders(self, event, group=None, place=None, day=None, known=None):
        """Tell (mark, names) of those who hold a best at the end of a day, None where nobody does."""
        self._check_best(event, group, place)
        check_day_or_none(day)
        if day is None:
            day = MOST_DAY
        held = held_on(self.stints(event, group, place, known), day)
        if len(held) == 0:
            return None
        return (held[0][2], tuple(sorted([stint[1] for stint in held])))

    def why(self, number, event, group=None, place=None, known=None):
        """Tell why a deed is a best or none, as known on a day."""
        self._check_number(number)
        self._check_best(event, group, place)
        check_day_or_none(known)
        word = self._words(known)[number]
        if word != "good":
            return (word,)
        rows = self._rows(event, group, place, known)
        numbers = [row[0] for row in rows]
        if number not in numbers:
            return ("other",)
        for stint in self._stints_of(event, rows):
            if stint[0] == number:
                return ("held", stint[3], stint[4])
        ahead = rows[:numbers.index(number)]
        return ("behind", held_still(self._stints_of(event, ahead))[0][0])

    def to_break(self, event, group=None, place=None, day=None, known=None):
        """Tell the worst mark that is better than that of the holders, None where none is."""
        held = self.holders(event, group, place, day, known)
        way = self._event(event)[1]
        if held is None:
            return worst_mark(way)
        return worst_better(held[0], way)

    def bests_of(self, number):
        """Tell the rising list of the bests (event, group, place) of which a deed is a stint."""
        self._check_number(number)
        deed = self._deeds[number][0]
        bests = []
        for group in (None, self._people[deed.name].group):
            for place in range(len(self.rules)):
                if number in [stint[0] for stint in self.stints(deed.event, group, place)]:
                    bests.append((deed.event, group or "", place))
        return bests

    def _add_paper(self, paper):
        """Put a paper that is neither a person nor a deed behind those that stand."""
        self._papers.append(paper)
        self._undoable.append("paper")

    def _check_number(self, thing):
        """Refuse what is no number of a deed."""
        if not is_number_from(thing, 0, len(self._deeds) - 1):
            raise Gone(thing)

    def _check_deed(self, deed):
        """Refuse a deed that cannot stand in the book."""
        person = self._people.get(deed.name)
        if person is None:
            raise Unknown(deed.name)
        self._event(deed.event)
        if person.born > deed.day:
            raise Unborn("the person is born behind the day of the deed")
        if deed in [other for other, _ in self._deeds]:
            raise Clash("an equal deed is there")
        if len(self._deeds) >= MOST_DEEDS_OF_BOOK:
            raise Full("a book has at most a hundred deeds")

    def _check_best(self, event, group, place):
        """Refuse what makes no best."""
        self._event(event)
        if group is not None:
            check_name(group)
        if place is not None and not is_number_from(place, 0, len(self.rules) - 1):
            raise NoClass("place is None or the number of an age class")

    def _event(self, name):
        """Tell the event of a name, refuse what is the name of none."""
        for event in self.events:
            if event[0] == name:
                return event
        raise NoEvent(name)

    def _words(self, known):
        """Tell the list of the words for how each deed stands, as known on a day."""
        papers = papers_known(self._papers, known)
        struck = struck_numbers(papers)
        spans = measured_spans(papers)
        words = []
        for number, (deed, since) in enumerate(self._deeds):
            if not is_known(since, known):
                words.append("untold")
            elif struck.get(number, False):
                words.append("struck")
            elif is_within(deed.day, spans.get(deed.course, [])):
                words.append("course")
            elif self._event(deed.event)[2] and deed.wind > self.rules.wind:
                words.append("wind")
            else:
                words.append("good")
        return words

    def _counts(self, deed, event, group, place):
        """Tell whether a deed counts for a best."""
        person = self._people[deed.name]
        if deed.event != event:
            return False
        if group is not None and person.group != group:
            return False
        if place is None:
            place = len(self.rules) - 1
        return place in self.rules.classes_of(person.age_on(deed.day))

    def _rows(self, event, group, place, known):
        """Tell the list of (number, deed) of the good deeds that count for a best, by their times."""
        words = self._words(known)
        return rows_by_time([
            (number, deed) for number, (deed, _) in enumerate(self._deeds)
            if words[number] == "good" and self._counts(deed, event, group, place)])

    def _stints_of(self, event, rows):
        """Tell the list of the stints that come of rows of an event."""
        return stints_of(rows, self._event(event)[1], self.rules.shares)


def check_book(thing):
    """Refuse what is no book."""
    if not isinstance(thing, Book):
        raise NoBook("what is handed in is a book")
