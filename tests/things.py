"""Things of every kind that may be handed in, and how a call is refused."""

from bestsbook.errors import Gone, NoMark, NoText
from bestsbook.rules import Rules


def nested(deep):
    """Lists, one in another, the innermost with a number."""
    return 7 if deep == 1 else [nested(deep - 1)]


def anything():
    """One or more things of each kind, all made anew."""
    return [
        None, True, False,
        0, 1, -1, 2, 20, 1234, 10 ** 6, 10 ** 40 - 1, 1 - 10 ** 40,
        "", "a", "ann", "less", "more", "1", "True", "None", "Ann", "a b", "\t", "\n", "~", "x" * 4000,
        (), (1,), (12, 16), ("run", "less", False), ("run", "less"), (True, False), ((),), (None,),
        [], [1], [12, 16], ["run", "less", False], [[]], list(range(100)), nested(8),
        {}, {1: 2}, {"run": "less"}, {"a": [1, (2, {})]}, {0: "run", 1: "less", 2: False},
        Rules(), Rules((12, 16)), (Rules(),), [Rules()],
        NoMark("a text"), NoText(3), Gone(5),
    ]


def but_numbers(least, most):
    """All of anything that is no number from least to most."""
    return [thing for thing in anything()
            if isinstance(thing, bool) or not isinstance(thing, int) or not least <= thing <= most]


def but_truths():
    """All of anything that is no truth."""
    return [thing for thing in anything() if not isinstance(thing, bool)]


def refused(call, *values, **named):
    """The very class that refuses a call, None where nothing does."""
    try:
        call(*values, **named)
    except Exception as refusal:
        return refusal.__class__
    return None
