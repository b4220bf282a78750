"""The people of a club."""

from bestsbook.errors import NoDay, NoPerson
from bestsbook.kinds import is_day, is_name

DAYS_OF_A_YEAR = 365


def is_team(thing):
    """Tell whether a thing is a name, or "" for no team."""
    return is_name(thing) or thing == ""


class Person:
    """Somebody: a name, the day born, a group and a team."""

    def __init__(self, name, born, group="open", team=""):
        if not is_name(name):
            raise NoPerson("name is a text of 1 to 8 small letters")
        if not is_day(born):
            raise NoPerson("born is a number from -40000 to 40000")
        if not is_name(group):
            raise NoPerson("group is a text of 1 to 8 small letters")
        if not is_team(team):
            raise NoPerson("team is a text of none to 8 small letters")
        self.name = name
        self.born = born
        self.group = group
        self.team = team

    def __eq__(self, other):
        return isinstance(other, Person) and self.parts() == other.parts()

    def __str__(self):
        return " ".join([self.name, str(self.born), self.group, self.team or "-"])

    def __repr__(self):
        return f"Person{self.parts()!r}"

    def parts(self):
        """Tell the tuple of all four, in their order."""
        return (self.name, self.born, self.group, self.team)

    def age_on(self, day):
        """Tell how many times 365 days have gone by from the day born to this one."""
        if not is_day(day) or day < self.born:
            raise NoDay("a day from the day born on, up to 40000")
        return (day - self.born) // DAYS_OF_A_YEAR
