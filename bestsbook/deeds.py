"""Deeds: who did what in which event, when, with what wind, on which course."""

from bestsbook.errors import NoDeed
from bestsbook.kinds import is_day, is_hour, is_name, is_wind
from bestsbook.marks import is_mark


class Deed:
    """What somebody did in an event."""

    def __init__(self, name, event, mark, day, hour=0, wind=0, course="yard"):
        if not is_name(name):
            raise NoDeed("name is a text of 1 to 8 small letters")
        if not is_name(event):
            raise NoDeed("event is a text of 1 to 8 small letters")
        if not is_mark(mark):
            raise NoDeed("mark is a number from 1 to 1000000")
        if not is_day(day):
            raise NoDeed("day is a number from -40000 to 40000")
        if not is_hour(hour):
            raise NoDeed("hour is a number from 0 to 23")
        if not is_wind(wind):
            raise NoDeed("wind is a number from -99 to 99")
        if not is_name(course):
            raise NoDeed("course is a text of 1 to 8 small letters")
        self.name = name
        self.event = event
        self.mark = mark
        self.day = day
        self.hour = hour
        self.wind = wind
        self.course = course

    def __eq__(self, other):
        return isinstance(other, Deed) and self.parts() == other.parts()

    def __str__(self):
        return " ".join([str(part) for part in self.parts()])

    def __repr__(self):
        return f"Deed{self.parts()!r}"

    def parts(self):
        """Tell the tuple of all seven, in their order."""
        return (self.name, self.event, self.mark, self.day, self.hour, self.wind, self.course)

    def time(self):
        """Tell the time, (day, hour)."""
        return (self.day, self.hour)
