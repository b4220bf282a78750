"""The plain kinds of values that the other files ask for."""

LETTERS = "abcdefghijklmnopqrstuvwxyz"
LONGEST_NAME = 8
MOST_DAY = 40000
LAST_HOUR = 23
MOST_WIND = 99


def is_number(thing):
    """Tell whether a thing is an int that is no truth."""
    # Python counts True and False among the ints.
    return isinstance(thing, int) and not isinstance(thing, bool)


def is_number_from(thing, least, most):
    """Tell whether a thing is a number from least to most."""
    return is_number(thing) and least <= thing <= most


def is_name(thing):
    """Tell whether a thing is a text of 1 to 8 small letters."""
    if not isinstance(thing, str) or not 1 <= len(thing) <= LONGEST_NAME:
        return False
    # islower and isalpha would take letters beyond a to z as well.
    return all([letter in LETTERS for letter in thing])


def is_day(thing):
    """Tell whether a thing is a day."""
    return is_number_from(thing, -MOST_DAY, MOST_DAY)


def is_hour(thing):
    """Tell whether a thing is an hour of a day."""
    return is_number_from(thing, 0, LAST_HOUR)


def is_wind(thing):
    """Tell whether a thing is a wind."""
    return is_number_from(thing, -MOST_WIND, MOST_WIND)
