"""The error classes of the interface, and the families of 0.4."""

import unittest

from bestsbook import errors
from tests.things import anything

HEADS = {"ClubError": ValueError, "Missing": KeyError, "NoPlace": IndexError}
WITH_A_TEXT = (
    "NoMark", "NoWay", "NoRules", "NoAge", "NoPerson", "NoDay", "NoDeed", "NoSheet", "NoWord", "NoEvents",
    "NoName", "NoClass", "Clash", "Unborn", "Full", "NoUndo", "Unlike", "NoLine", "NoBook",
)
WITH_ASKED = ("Unknown", "NoEvent", "Gone")


def told(name):
    return getattr(errors, name)


class Families(unittest.TestCase):

    def test_heads_stand_straight_under_pythons_own(self):
        for name, above in HEADS.items():
            self.assertEqual(told(name).__bases__, (above,), name)

    def test_refusals_with_a_text_stand_straight_under_cluberror(self):
        for name in WITH_A_TEXT + ("NoText",):
            self.assertEqual(told(name).__bases__, (errors.ClubError,), name)

    def test_what_is_not_there_stands_straight_under_missing(self):
        for name in WITH_ASKED:
            self.assertEqual(told(name).__bases__, (errors.Missing,), name)

    def test_there_are_no_other_classes_and_each_is_defined_here(self):
        classes = {name for name, value in vars(errors).items() if isinstance(value, type)}
        self.assertEqual(classes, set(HEADS) | set(WITH_A_TEXT) | set(WITH_ASKED) | {"NoText"})
        for name in classes:
            self.assertEqual(told(name).__module__, "bestsbook.errors")


class Fields(unittest.TestCase):

    def test_made_with_a_text(self):
        for name in WITH_A_TEXT + ("ClubError",):
            self.assertEqual(str(told(name)("why not")), "why not", name)

    def test_asked_is_what_was_asked_for(self):
        for name in WITH_ASKED + ("Missing",):
            for thing in anything():
                self.assertIs(told(name)(thing).asked, thing)
                self.assertIs(told(name)(asked=thing).asked, thing)

    def test_place_is_what_was_handed_in(self):
        for thing in anything():
            self.assertIs(errors.NoPlace(thing).place, thing)
            self.assertIs(errors.NoPlace(place=thing).place, thing)

    def test_line_is_the_line(self):
        for line in (-1, 0, 7, 60):
            self.assertEqual(errors.NoText(line).line, line)
            self.assertEqual(errors.NoText(line=line).line, line)

    def test_fields_are_needed(self):
        for name in WITH_ASKED + ("Missing", "NoPlace", "NoText"):
            self.assertRaises(TypeError, told(name))

    def test_caught_by_family(self):
        for raised, caught in ((errors.NoMark("x"), ValueError), (errors.NoText(2), errors.ClubError),
                               (errors.Gone(4), KeyError), (errors.Unknown("ann"), errors.Missing),
                               (errors.NoPlace(3), IndexError)):
            with self.assertRaises(caught):
                raise raised


if __name__ == "__main__":
    unittest.main()
