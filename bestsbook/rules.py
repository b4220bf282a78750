"""The rules of a book: age classes, the wind allowed, shared bests."""

from bestsbook.errors import NoAge, NoRules
from bestsbook.kinds import is_number_from, is_wind

MOST_LIMITS = 4
LEAST_LIMIT = 1
MOST_LIMIT = 99
MOST_AGE = 300


def are_limits(thing):
    """Tell whether a thing is a rising tuple of none to four limits."""
    if not isinstance(thing, tuple) or len(thing) > MOST_LIMITS:
        return False
    # Each by itself first: what is no number cannot be compared.
    if not all([is_number_from(limit, LEAST_LIMIT, MOST_LIMIT) for limit in thing]):
        return False
    return all([ahead < behind for ahead, behind in zip(thing, thing[1:])])


class Rules:
    """Where the age classes end, who counts in them, and what else holds."""

    def __init__(self, limits=None, up=True, wind=20, shares=True):
        if limits is None:
            limits = ()
        if not are_limits(limits):
            raise NoRules("limits is a rising tuple of none to four numbers from 1 to 99")
        if not isinstance(up, bool):
            raise NoRules("up is True or False")
        if not is_wind(wind):
            raise NoRules("wind is a number from -99 to 99")
        if not isinstance(shares, bool):
            raise NoRules("shares is True or False")
        self.limits = limits
        self.up = up
        self.wind = wind
        self.shares = shares

    def __eq__(self, other):
        return (isinstance(other, Rules) and self.limits == other.limits and self.up == other.up
                and self.wind == other.wind and self.shares == other.shares)

    def __len__(self):
        # One class below each limit, and one above them all.
        return len(self.limits + ("above",))

    def __repr__(self):
        return f"Rules(limits={self.limits!r}, up={self.up!r}, wind={self.wind!r}, shares={self.shares!r})"

    def classes_of(self, age):
        """Tell the rising list of the classes in which a deed at this age counts."""
        if not is_number_from(age, 0, MOST_AGE):
            raise NoAge("an age is a number from 0 to 300")
        # As the limits rise, those not greater than the age all stand ahead of its class.
        first = len([limit for limit in self.limits if limit <= age])
        if self.up:
            return list(range(first, len(self)))
        return [first]
