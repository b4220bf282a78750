"""Rules: 2.1 and 2.2."""

import unittest

from bestsbook.errors import NoAge, NoRules
from bestsbook.rules import Rules
from tests.things import anything, but_numbers, but_truths, refused


def values(rules):
    return (rules.limits, rules.up, rules.wind, rules.shares)


class Values(unittest.TestCase):

    def assert_values(self, rules, limits, up, wind, shares):
        self.assertEqual(rules.limits, limits)
        self.assertIsInstance(rules.limits, tuple)
        self.assertIs(rules.up, up)
        self.assertEqual(rules.wind, wind)
        self.assertIs(rules.shares, shares)

    def test_nothing_at_all(self):
        self.assert_values(Rules(), (), True, 20, True)
        self.assert_values(Rules(None), (), True, 20, True)
        self.assert_values(Rules(limits=None), (), True, 20, True)
        self.assert_values(Rules(()), (), True, 20, True)

    def test_by_place(self):
        self.assert_values(Rules((12, 16), False, 5, False), (12, 16), False, 5, False)

    def test_by_name(self):
        self.assert_values(Rules(shares=False, wind=-3, limits=(12,)), (12,), True, -3, False)
        self.assert_values(Rules((7,), up=False), (7,), False, 20, True)

    def test_none_to_four_limits(self):
        for limits in ((), (9,), (9, 10), (1, 50, 99), (1, 2, 3, 4), (96, 97, 98, 99), (1,), (99,)):
            self.assert_values(Rules(limits), limits, True, 20, True)

    def test_wind_from_minus_99_to_99(self):
        for wind in (-99, -1, 0, 1, 99):
            self.assert_values(Rules(wind=wind), (), True, wind, True)


class Refused(unittest.TestCase):

    def test_five_limits(self):
        self.assertIs(refused(Rules, (1, 2, 3, 4, 5)), NoRules)
        self.assertIs(refused(Rules, tuple(range(1, 100))), NoRules)

    def test_limits_that_do_not_rise(self):
        for limits in ((16, 12), (12, 12), (1, 2, 2), (1, 3, 2), (3, 1, 2), (1, 2, 4, 3), (4, 4, 4, 4)):
            self.assertIs(refused(Rules, limits), NoRules, limits)

    def test_limits_beyond(self):
        for limits in ((0,), (100,), (-1,), (0, 12), (12, 100), (1, 2, 3, 100), (0, 1, 2, 3), (10 ** 40 - 1,)):
            self.assertIs(refused(Rules, limits), NoRules, limits)

    def test_other_things_for_limits(self):
        for thing in anything():
            # By what is shown, for (True,) equals (1,).
            if repr(thing) in ("None", "()", "(1,)", "(12, 16)"):
                continue
            self.assertIs(refused(Rules, thing), NoRules, repr(thing)[:80])
            self.assertIs(refused(Rules, limits=thing), NoRules)
        for thing in ([], [12], [12, 16], {12: 16}, "12", 12, range(1, 3), b"\x01"):
            self.assertIs(refused(Rules, thing), NoRules)

    def test_other_things_among_the_limits(self):
        for thing in but_numbers(1, 99):
            for limits in ((thing,), (thing, 50), (50, thing), (1, thing, 99)):
                self.assertIs(refused(Rules, limits), NoRules)

    def test_other_things_for_up(self):
        for thing in but_truths():
            self.assertIs(refused(Rules, (12,), thing), NoRules)
            self.assertIs(refused(Rules, up=thing), NoRules)

    def test_other_things_for_wind(self):
        for thing in but_numbers(-99, 99) + [-100, 100]:
            self.assertIs(refused(Rules, (12,), True, thing), NoRules)
            self.assertIs(refused(Rules, wind=thing), NoRules)

    def test_other_things_for_shares(self):
        for thing in but_truths():
            self.assertIs(refused(Rules, (12,), True, 20, thing), NoRules)
            self.assertIs(refused(Rules, shares=thing), NoRules)

    def test_several_at_once(self):
        self.assertIs(refused(Rules, [12], 1, None, 0), NoRules)


class Shown(unittest.TestCase):

    def test_len(self):
        for limits in ((), (5,), (5, 6), (5, 6, 7), (5, 6, 7, 8)):
            for up in (True, False):
                self.assertEqual(len(Rules(limits, up)), len(limits) + 1)
        self.assertEqual(len(Rules()), 1)

    def test_repr(self):
        self.assertEqual(repr(Rules((12, 16))), "Rules(limits=(12, 16), up=True, wind=20, shares=True)")
        self.assertEqual(repr(Rules()), "Rules(limits=(), up=True, wind=20, shares=True)")
        self.assertEqual(repr(Rules((9,), False, -7, False)), "Rules(limits=(9,), up=False, wind=-7, shares=False)")


class Equal(unittest.TestCase):

    def assert_equal_is(self, expected, one, other):
        self.assertIs(one == other, expected)
        self.assertIs(other == one, expected)
        self.assertIs(one != other, not expected)
        self.assertIs(other != one, not expected)

    def test_alike(self):
        rules = Rules((12, 16), False, 5, False)
        self.assert_equal_is(True, rules, rules)
        self.assert_equal_is(True, rules, Rules((12, 16), False, 5, False))
        self.assert_equal_is(True, Rules(), Rules((), True, 20, True))
        self.assert_equal_is(True, Rules(), Rules(None))

    def test_unlike_in_one_part(self):
        rules = Rules((12, 16), False, 5, False)
        self.assert_equal_is(False, rules, Rules((12, 17), False, 5, False))
        self.assert_equal_is(False, rules, Rules((12,), False, 5, False))
        self.assert_equal_is(False, rules, Rules((), False, 5, False))
        self.assert_equal_is(False, rules, Rules((12, 16), True, 5, False))
        self.assert_equal_is(False, rules, Rules((12, 16), False, 6, False))
        self.assert_equal_is(False, rules, Rules((12, 16), False, -5, False))
        self.assert_equal_is(False, rules, Rules((12, 16), False, 5, True))

    def test_beside_what_is_no_rules(self):
        rules = Rules((12, 16))
        for thing in anything() + [values(rules), list(values(rules)), repr(rules)]:
            if isinstance(thing, Rules):
                continue
            self.assert_equal_is(False, rules, thing)
            self.assert_equal_is(False, Rules(), thing)


class Classes(unittest.TestCase):

    def test_up(self):
        rules = Rules((12, 16))
        for age, classes in ((0, [0, 1, 2]), (11, [0, 1, 2]), (12, [1, 2]), (13, [1, 2]), (15, [1, 2]),
                             (16, [2]), (17, [2]), (99, [2]), (300, [2])):
            self.assertEqual(rules.classes_of(age), classes, age)

    def test_own(self):
        rules = Rules((12, 16), up=False)
        for age, classes in ((0, [0]), (11, [0]), (12, [1]), (13, [1]), (15, [1]), (16, [2]), (17, [2]), (300, [2])):
            self.assertEqual(rules.classes_of(age), classes, age)

    def test_four_limits(self):
        for k, limit in enumerate((1, 2, 50, 99)):
            rules = Rules((1, 2, 50, 99))
            own = Rules((1, 2, 50, 99), False)
            self.assertEqual(rules.classes_of(limit - 1), list(range(k, 5)))
            self.assertEqual(rules.classes_of(limit), list(range(k + 1, 5)))
            self.assertEqual(own.classes_of(limit - 1), [k])
            self.assertEqual(own.classes_of(limit), [k + 1])
        self.assertEqual(rules.classes_of(100), [4])
        self.assertEqual(own.classes_of(100), [4])

    def test_no_limits(self):
        for up in (True, False):
            for age in (0, 1, 50, 300):
                self.assertEqual(Rules(up=up).classes_of(age), [0])

    def test_by_name(self):
        self.assertEqual(Rules((12,)).classes_of(age=11), [0, 1])

    def test_no_age(self):
        for rules in (Rules(), Rules((12, 16)), Rules((12, 16), False)):
            for thing in but_numbers(0, 300) + [-1, 301]:
                self.assertIs(refused(rules.classes_of, thing), NoAge)

    def test_a_list_told_is_the_askers_own(self):
        for rules in (Rules(), Rules((12, 16)), Rules((12, 16), False)):
            for age in (5, 12, 16):
                told = rules.classes_of(age)
                self.assertIsInstance(told, list)
                was = list(told)
                told.append(7)
                told[0] = 9
                self.assertEqual(rules.classes_of(age), was)

    def test_asking_changes_nothing(self):
        rules = Rules((12, 16), False, 5, False)
        for age in (0, 12, 300, None, -1):
            refused(rules.classes_of, age)
            len(rules)
            repr(rules)
        self.assertEqual(values(rules), ((12, 16), False, 5, False))


if __name__ == "__main__":
    unittest.main()
