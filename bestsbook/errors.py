"""The errors by which the program refuses what it is handed or asked."""


class ClubError(ValueError):
    """What is handed in is not what it is to be, or cannot be done."""


class Missing(KeyError):
    """What is asked for is not there."""

    def __init__(self, asked):
        self.asked = asked


class NoPlace(IndexError):
    """There is nothing at a place."""

    def __init__(self, place):
        self.place = place


class NoMark(ClubError):
    """A thing is no mark, or no list or tuple of marks."""


class NoWay(ClubError):
    """A thing is no way in which marks are better."""


class NoRules(ClubError):
    """A thing is no rules, or no part of rules."""


class NoAge(ClubError):
    """A thing is no age."""


class NoPerson(ClubError):
    """A thing is no person, or no part of one."""


class NoDay(ClubError):
    """A thing is no day, or none that may stand there."""


class NoDeed(ClubError):
    """A thing is no deed, or no part of one."""


class NoSheet(ClubError):
    """A thing is no sheet, or nothing to make one of."""


class NoWord(ClubError):
    """A thing is no word to sort by."""


class NoEvents(ClubError):
    """A thing is no tuple of events for a book."""


class NoName(ClubError):
    """A thing is no name."""


class NoClass(ClubError):
    """A thing is no age class of the rules."""


class Clash(ClubError):
    """Something else stands where this was to be."""


class Unborn(ClubError):
    """A person is born behind the day of the deed."""


class Full(ClubError):
    """A book has as many deeds as it may have."""


class NoUndo(ClubError):
    """There is no paper to undo."""


class Unlike(ClubError):
    """Two books have not the same events and rules."""


class NoLine(ClubError):
    """A thing is no line that a desk knows."""


class NoBook(ClubError):
    """A thing is no book, or a desk has none."""


class NoText(ClubError):
    """A text does not write what it is to write."""

    def __init__(self, line):
        self.line = line


class Unknown(Missing):
    """Nobody of that name is enrolled."""


class NoEvent(Missing):
    """A book has no event of that name."""


class Gone(Missing):
    """A book has no deed of that number."""
