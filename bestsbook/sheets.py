"""Sheets of deeds."""

from bestsbook.deeds import Deed
from bestsbook.errors import NoDeed, NoPlace, NoSheet, NoWord
from bestsbook.kinds import is_number_from

MOST_DEEDS = 60
WORDS = ("time", "mark", "name", "event")


def are_deeds(thing):
    """Tell whether a thing is a list or tuple of none to sixty deeds."""
    if not isinstance(thing, (list, tuple)) or len(thing) > MOST_DEEDS:
        return False
    return all([isinstance(deed, Deed) for deed in thing])


def is_word(thing):
    """Tell whether a thing is a word to sort deeds by."""
    return isinstance(thing, str) and thing in WORDS


def part_to_sort_by(deed, word):
    """Tell what a word to sort by means of a deed."""
    if word == "time":
        return deed.time()
    if word == "mark":
        return deed.mark
    if word == "name":
        return deed.name
    return deed.event


class Sheet:
    """Deeds in a row, as they were handed in."""

    def __init__(self, deeds=None):
        if deeds is None:
            deeds = ()
        if not are_deeds(deeds):
            raise NoSheet("deeds is a list or tuple of none to sixty deeds")
        # A tuple of its own, for a list that was handed in may change behind.
        self._deeds = tuple(deeds)

    def __eq__(self, other):
        return isinstance(other, Sheet) and self.sorted_parts() == other.sorted_parts()

    def __len__(self):
        return len(self._deeds)

    def __str__(self):
        return "\n".join([str(deed) for deed in self._deeds])

    def __repr__(self):
        return f"Sheet({len(self._deeds)})"

    def sorted_parts(self):
        """Tell the list of the parts of each deed, the same for whatever order of the deeds."""
        return sorted([deed.parts() for deed in self._deeds])

    def at(self, place):
        """Tell the deed at a place, from 0, and from -1 back."""
        if not is_number_from(place, -len(self._deeds), len(self._deeds) - 1):
            raise NoPlace(place)
        return self._deeds[place]

    def plus(self, deed):
        """Tell another sheet, with a deed behind."""
        if not isinstance(deed, Deed):
            raise NoDeed("what is put behind a sheet is a deed")
        return Sheet(self._deeds + (deed,))

    def all_deeds(self):
        """Tell the list of the deeds."""
        return list(self._deeds)

    def by(self, word="time", backward=False):
        """Tell the list of the deeds, sorted by a word; those alike in it as they stand."""
        if not is_word(word):
            raise NoWord("a word to sort by is time, mark, name or event")
        if backward is True:
            # Python leaves those alike as they stand here, too; turning the sorted list about would not.
            return sorted(self._deeds, key=lambda deed: part_to_sort_by(deed, word), reverse=True)
        return sorted(self._deeds, key=lambda deed: part_to_sort_by(deed, word))

    def has(self, thing):
        """Tell whether a thing is one of the deeds, or equals one."""
        return isinstance(thing, Deed) and thing in self._deeds
