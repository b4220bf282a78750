"""Stints: who held a best from when to when.

A row is a tuple (number, deed), a stint a tuple (number, name, mark, since, till).
"""

from bestsbook.kinds import is_number
from bestsbook.marks import LEAST_MARK, MOST_MARK, better, is_mark


def rows_by_time(rows):
    """Tell the list of the rows by the times of their deeds, those of one time by their numbers."""
    return sorted(rows, key=lambda row: (row[1].time(), row[0]))


def takes_over(deed, held, way):
    """Tell whether a deed ends the stints of the rows that hold the best, and begins its own."""
    return len(held) == 0 or better(deed.mark, held[0][1].mark, way)


def holds_with(deed, held):
    """Tell whether a deed has the mark of the rows that hold the best, and somebody else did it."""
    return deed.mark == held[0][1].mark and deed.name not in [holder.name for _, holder in held]


def stints_of(rows, way, shares):
    """Tell the list of the stints that come of rows, which stand by their times."""
    begun = []
    tills = {}
    held = []
    for number, deed in rows:
        if takes_over(deed, held, way):
            for old, _ in held:
                tills[old] = deed.time()
            held = [(number, deed)]
            begun.append((number, deed))
        elif shares and holds_with(deed, held):
            held = held + [(number, deed)]
            begun.append((number, deed))
    return [(number, deed.name, deed.mark, deed.time(), tills.get(number)) for number, deed in begun]


def held_still(stints):
    """Tell the list of the stints that have not ended."""
    return [stint for stint in stints if stint[4] is None]


def held_on(stints, day):
    """Tell the list of the stints that stand at the end of a day."""
    # A stint that ends on the day is over at its end, at whatever hour.
    return [stint for stint in stints if stint[3][0] <= day and (stint[4] is None or stint[4][0] > day)]


def worst_better(mark, way):
    """Tell the worst mark that is better than a mark, None where none is."""
    if way == "less":
        next_mark = mark - 1
    else:
        next_mark = mark + 1
    if is_mark(next_mark):
        return next_mark
    return None


def worst_mark(way):
    """Tell the worst mark of all."""
    if way == "less":
        return MOST_MARK
    return LEAST_MARK


def is_like(thing, own):
    """Tell whether a thing is just what own is, of lists, tuples, numbers, texts and None."""
    if isinstance(own, list):
        return isinstance(thing, list) and are_like(thing, own)
    if isinstance(own, tuple):
        return isinstance(thing, tuple) and are_like(thing, own)
    # A truth is no number, though it equals one.
    if is_number(own):
        return is_number(thing) and thing == own
    if own is None:
        return thing is None
    return isinstance(thing, str) and thing == own


def are_like(things, own):
    """Tell whether the things of one row are just what those of the own row are."""
    return len(things) == len(own) and all([is_like(one, other) for one, other in zip(things, own)])
