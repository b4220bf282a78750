"""A desk: a book kept by lines of words."""

from bestsbook.book import Book
from bestsbook.deeds import Deed
from bestsbook.errors import NoBook, NoLine, NoText
from bestsbook.kinds import is_name
from bestsbook.lines import writes_number
from bestsbook.people import Person
from bestsbook.rules import Rules

WIND = 20
NONE = "-"
WAYS = {"-": "less", "+": "more"}
# What the last word of a book line stands for, as (up, shares).
OPTIONS = {"-": (True, True), "alone": (True, False), "own": (False, True), "alone,own": (False, False)}
# The kinds of the words behind the first one of each line.
LINES = {
    "book": ("events", "limits", "options"),
    "enrol": ("name", "number", "name", "team"),
    "tell": ("name", "name", "number", "number", "number", "number", "name"),
    "late": ("number", "name", "name", "number", "number", "number", "number", "name"),
    "strike": ("number", "number"),
    "restore": ("number", "number"),
    "measure": ("name", "number", "number", "number"),
    "uphold": ("name", "number"),
    "undo": (),
    "holders": ("name", "group", "number"),
    "stints": ("name", "group", "number"),
    "why": ("number", "name", "group", "number"),
    "state": ("number",),
    "break": ("name", "group", "number"),
    "many": (),
}


def words_of(line):
    """Tell the list of the words of a line, refuse what is none."""
    if not isinstance(line, str):
        raise NoLine("a line is a text")
    words = line.split(" ")
    # Two blanks side by side, and one at either end, leave an empty word.
    if "" in words:
        raise NoLine("words have one blank between each two")
    if words[0] not in LINES or len(words) != 1 + len(LINES[words[0]]):
        raise NoLine("no line has this first word and as many words")
    return words


def read_name(word):
    """Tell the name that a word is."""
    if not is_name(word):
        raise NoText(0)
    return word


def read_number(word):
    """Tell the number that a word writes."""
    if not writes_number(word):
        raise NoText(0)
    return int(word)


def read_word(kind, word):
    """Tell what a word of a kind writes."""
    if kind == "number":
        return read_number(word)
    if kind == "group" and word == NONE:
        return None
    if kind == "team" and word == NONE:
        return ""
    return read_name(word)


def read_event(text):
    """Tell the event that a text such as run-w writes."""
    body = text.removesuffix("w")
    way = WAYS.get(body[-1:])
    if way is None:
        raise NoText(0)
    return (read_name(body[:-1]), way, body != text)


def read_limits(word):
    """Tell the tuple of the limits that a word such as 12,16 writes."""
    if word == NONE:
        return ()
    return tuple([read_number(text) for text in word.split(",")])


def read_options(word):
    """Tell (up, shares) of a word such as alone,own."""
    if word not in OPTIONS:
        raise NoText(0)
    return OPTIONS[word]


def new_book(events, limits, options):
    """Tell the book that the words behind book write."""
    # All words are read before anything is made of them: how they are written comes first.
    events_read = tuple([read_event(text) for text in events.split(",")])
    limits_read = read_limits(limits)
    up, shares = read_options(options)
    return Book(events_read, Rules(limits_read, up, WIND, shares))


def time_text(time):
    """Tell the text of a time, or of None."""
    if time is None:
        return "still"
    return f"{time[0]}.{time[1]}"


def say_enrol(book, name, born, group, team):
    """Answer an enrol line."""
    book.enrol(Person(name, born, group, team))
    return "ok"


def say_tell(book, name, event, mark, day, hour, wind, course):
    """Answer a tell line."""
    return str(book.tell(Deed(name, event, mark, day, hour, wind, course)))


def say_late(book, known, name, event, mark, day, hour, wind, course):
    """Answer a late line."""
    return str(book.tell(Deed(name, event, mark, day, hour, wind, course), known))


def say_strike(book, number, known):
    """Answer a strike line."""
    book.strike(number, known)
    return "ok"


def say_restore(book, number, known):
    """Answer a restore line."""
    book.restore(number, known)
    return "ok"


def say_measure(book, course, since, till, known):
    """Answer a measure line."""
    book.measure(course, since, till, known)
    return "ok"


def say_uphold(book, course, known):
    """Answer an uphold line."""
    book.uphold(course, known)
    return "ok"


def say_undo(book):
    """Answer an undo line."""
    book.undo()
    return "ok"


def say_holders(book, event, group, place):
    """Answer a holders line."""
    held = book.holders(event, group, place)
    if held is None:
        return "none"
    mark, names = held
    return " ".join([str(mark), *names])


def say_stints(book, event, group, place):
    """Answer a stints line."""
    stints = book.stints(event, group, place)
    if len(stints) == 0:
        return "none"
    return " ".join([f"{stint[0]}:{stint[1]}" for stint in stints])


def say_why(book, number, event, group, place):
    """Answer a why line."""
    reason = book.why(number, event, group, place)
    if reason[0] == "held":
        return " ".join(["held", time_text(reason[1]), time_text(reason[2])])
    return " ".join([str(thing) for thing in reason])


def say_state(book, number):
    """Answer a state line."""
    return book.state(number)


def say_break(book, event, group, place):
    """Answer a break line."""
    mark = book.to_break(event, group, place)
    if mark is None:
        return "none"
    return str(mark)


def say_many(book):
    """Answer a many line."""
    return str(len(book))


ANSWERS = {
    "enrol": say_enrol, "tell": say_tell, "late": say_late, "strike": say_strike, "restore": say_restore,
    "measure": say_measure, "uphold": say_uphold, "undo": say_undo, "holders": say_holders, "stints": say_stints,
    "why": say_why, "state": say_state, "break": say_break, "many": say_many,
}


class Desk:
    """A desk that keeps a book, at first none."""

    def __init__(self):
        self._book = None

    def say(self, line):
        """Take a line, tell the text that answers it."""
        words = words_of(line)
        if words[0] == "book":
            self._book = new_book(words[1], words[2], words[3])
            return "ok"
        if self._book is None:
            raise NoBook("the desk has no book")
        answer = ANSWERS[words[0]]
        things = [read_word(kind, word) for kind, word in zip(LINES[words[0]], words[1:])]
        return answer(self._book, *things)
