"""Things of every kind that may be handed in, and how a call is refused."""

from bestsbook.book import Book
from bestsbook.deeds import Deed
from bestsbook.desk import Desk
from bestsbook.errors import Gone, NoMark, NoPlace, NoText
from bestsbook.people import Person
from bestsbook.rules import Rules
from bestsbook.sheets import Sheet


def nested(deep):
    """Lists, one in another, the innermost with a number."""
    return 7 if deep == 1 else [nested(deep - 1)]


def anything():
    """One or more things of each kind, all made anew."""
    return [
        None, True, False,
        0, 1, -1, 2, 20, 1234, 10 ** 6, 10 ** 40 - 1, 1 - 10 ** 40,
        "", "a", "ann", "less", "more", "1", "True", "None", "Ann", "a b", "\t", "\n", "~", "x" * 4000,
        (), (1,), (12, 16), ("run", "less", False), ("run", "less"), (True, False), ((),), (None,),
        [], [1], [12, 16], ["run", "less", False], [[]], list(range(100)), nested(8),
        {}, {1: 2}, {"run": "less"}, {"a": [1, (2, {})]}, {0: "run", 1: "less", 2: False},
        Rules(), Rules((12, 16)), (Rules(),), [Rules()],
        Person("ann", 5), Deed("ann", "run", 1234, 5), Sheet(), Sheet([Deed("ann", "run", 1234, 5)]),
        [Person("ann", 5)], (Deed("ann", "run", 1234, 5), None), {"ann": Sheet()},
        NoMark("a text"), NoText(3), NoPlace(0), Gone(5),
        Book((("run", "less", False),)), (Book((("run", "less", False),)),), Desk(),
    ]


def but_numbers(least, most):
    """All of anything that is no number from least to most."""
    return [thing for thing in anything()
            if isinstance(thing, bool) or not isinstance(thing, int) or not least <= thing <= most]


def but_names():
    """All of anything that is no name, and texts that are all but one."""
    good = ("a", "ann", "less", "more")
    things = [thing for thing in anything() if not (isinstance(thing, str) and thing in good)]
    others = "AZ09 -_.'`{~\t\n" + "\u00e9\u00df\u03b1\u0131\uff41"
    return things + ["abcdefghi", b"ann", ["ann"], ("ann",)] + [
        text for sign in others for text in (sign, sign + "ann", "ann" + sign, "a" + sign + "n")]


def but_days():
    """All of anything that is no day, and numbers just beyond."""
    return but_numbers(-40000, 40000) + [-40001, 40001]


def but(*kinds):
    """All of anything that is of none of these classes."""
    return [thing for thing in anything() if not isinstance(thing, kinds)]


def but_truths():
    """All of anything that is no truth."""
    return [thing for thing in anything() if not isinstance(thing, bool)]


def refused(call, *values, **named):
    """The very class that refuses a call, None where nothing does."""
    try:
        call(*values, **named)
    except Exception as refusal:
        return refusal.__class__
    return None


def refusal(call, *values, **named):
    """What refuses a call, as (class, field): the field is None where the class has none."""
    try:
        call(*values, **named)
    except Exception as error:
        return (error.__class__, *vars(error).values()) if vars(error) else (error.__class__, None)
    return None


def check_equal(test, expected, one, other):
    """Check that two things are equal, or that they are not, asked in every way."""
    test.assertIs(one == other, expected)
    test.assertIs(other == one, expected)
    test.assertIs(one != other, not expected)
    test.assertIs(other != one, not expected)
    test.assertIs(one in [other], expected)
    test.assertIs(other in (None, one), expected or other is None)
    test.assertIs(one not in [None, other], not expected)
