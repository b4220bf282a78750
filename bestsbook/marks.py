"""Events, and which of two or more marks is the better one."""

from bestsbook.errors import NoMark, NoWay
from bestsbook.kinds import is_name, is_number_from

LEAST_MARK = 1
MOST_MARK = 1000000


def is_mark(thing):
    """Tell whether a thing is a mark."""
    return is_number_from(thing, LEAST_MARK, MOST_MARK)


def is_way(thing):
    """Tell whether a thing says which marks are better."""
    return isinstance(thing, str) and thing in ("less", "more")


def is_event(thing):
    """Tell whether a thing is a tuple (name, way, windy)."""
    if not isinstance(thing, tuple) or len(thing) != 3:
        return False
    name, way, windy = thing
    return is_name(name) and is_way(way) and isinstance(windy, bool)


def check_mark(thing):
    """Refuse what is no mark."""
    if not is_mark(thing):
        raise NoMark("a mark is a number from 1 to 1000000")


def check_marks(thing):
    """Refuse what is no list or tuple of marks."""
    if not isinstance(thing, (list, tuple)):
        raise NoMark("marks are a list or a tuple")
    for mark in thing:
        check_mark(mark)


def check_way(thing):
    """Refuse what is no way."""
    if not is_way(thing):
        raise NoWay("a way is less or more")


def better(one, other, way="less"):
    """Tell whether the mark one is better than other."""
    check_mark(one)
    check_mark(other)
    check_way(way)
    if way == "less":
        return one < other
    return one > other


def best_of(marks, way="less", default=None):
    """Tell the best of the marks, default where there is none."""
    check_marks(marks)
    check_way(way)
    if len(marks) == 0:
        return default
    if way == "less":
        return min(marks)
    return max(marks)
