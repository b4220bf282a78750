"""People: 3.1."""

import unittest
import unittest.mock

from bestsbook.errors import NoDay, NoPerson
from bestsbook.people import Person
from tests.things import anything, but_names, but_numbers, check_equal, refused

NO_DAYS = but_numbers(-40000, 40000) + [-40001, 40001]
NAMES = ("a", "z", "ann", "abcdefgh", "stuvwxyz", "ijklmnop", "qr")


def values(person):
    return (person.name, person.born, person.group, person.team)


class Values(unittest.TestCase):

    def test_by_place(self):
        self.assertEqual(values(Person("ann", 5, "girls", "reds")), ("ann", 5, "girls", "reds"))

    def test_left_out(self):
        self.assertEqual(values(Person("ann", 5)), ("ann", 5, "open", ""))
        self.assertEqual(values(Person("ann", 5, "girls")), ("ann", 5, "girls", ""))

    def test_by_name(self):
        self.assertEqual(values(Person("ann", 5, team="reds")), ("ann", 5, "open", "reds"))
        self.assertEqual(values(Person(team="reds", born=5, group="girls", name="ann")), ("ann", 5, "girls", "reds"))

    def test_names_of_one_to_eight_letters(self):
        for name in NAMES:
            self.assertEqual(values(Person(name, 5)), (name, 5, "open", ""))
            self.assertEqual(values(Person("ann", 5, name)), ("ann", 5, name, ""))
            self.assertEqual(values(Person("ann", 5, "open", name)), ("ann", 5, "open", name))

    def test_no_team(self):
        self.assertEqual(values(Person("ann", 5, "girls", "")), ("ann", 5, "girls", ""))

    def test_days_born(self):
        for born in (-40000, -1, 0, 1, 40000):
            self.assertEqual(values(Person("ann", born)), ("ann", born, "open", ""))


class Refused(unittest.TestCase):

    def test_no_name(self):
        for thing in but_names():
            self.assertIs(refused(Person, thing, 5), NoPerson, repr(thing)[:80])
            self.assertIs(refused(Person, name=thing, born=5, group="girls", team="reds"), NoPerson)

    def test_no_day_born(self):
        for thing in NO_DAYS:
            self.assertIs(refused(Person, "ann", thing), NoPerson, repr(thing)[:80])
            self.assertIs(refused(Person, "ann", born=thing, team="reds"), NoPerson)

    def test_no_group(self):
        for thing in but_names():
            self.assertIs(refused(Person, "ann", 5, thing), NoPerson, repr(thing)[:80])
            self.assertIs(refused(Person, "ann", 5, group=thing, team="reds"), NoPerson)

    def test_no_team(self):
        for thing in but_names():
            if isinstance(thing, str) and thing == "":
                continue
            self.assertIs(refused(Person, "ann", 5, "open", thing), NoPerson, repr(thing)[:80])
            self.assertIs(refused(Person, "ann", 5, team=thing), NoPerson)

    def test_two_at_once(self):
        for one in range(4):
            for other in range(one + 1, 4):
                for thing in (None, True, [], 10 ** 40 - 1, "Ann"):
                    parts = ["ann", 5, "open", "reds"]
                    parts[one] = parts[other] = thing
                    self.assertIs(refused(Person, *parts), NoPerson)


class Shown(unittest.TestCase):

    def test_str(self):
        self.assertEqual(str(Person("ann", 5, "girls", "reds")), "ann 5 girls reds")
        self.assertEqual(str(Person("bob", -40000)), "bob -40000 open -")
        self.assertEqual(str(Person("a", 0, "b", "")), "a 0 b -")

    def test_repr(self):
        self.assertEqual(repr(Person("ann", 5)), "Person('ann', 5, 'open', '')")
        self.assertEqual(repr(Person("bob", -7, "girls", "reds")), "Person('bob', -7, 'girls', 'reds')")
        self.assertEqual(repr([Person("ann", 5)]), "[Person('ann', 5, 'open', '')]")


class Equal(unittest.TestCase):

    def test_alike(self):
        person = Person("ann", 5, "girls", "reds")
        check_equal(self, True, person, person)
        check_equal(self, True, person, Person("ann", 5, "girls", "reds"))
        check_equal(self, True, Person("ann", 5), Person("ann", 5, "open", ""))

    def test_unlike_in_one_part(self):
        person = Person("ann", 5, "girls", "reds")
        for other in (Person("anne", 5, "girls", "reds"), Person("ann", -5, "girls", "reds"),
                      Person("ann", 6, "girls", "reds"), Person("ann", 5, "girl", "reds"),
                      Person("ann", 5, "girls", "red"), Person("ann", 5, "girls"), Person("ann", 5, "reds", "girls")):
            check_equal(self, False, person, other)

    def test_beside_what_is_nobody(self):
        person = Person("ann", 5)
        for thing in anything() + [values(person), list(values(person)), str(person), repr(person)]:
            if not isinstance(thing, Person):
                check_equal(self, False, person, thing)
        # Alike in all that a person has, and yet none.
        other = unittest.mock.Mock(**dict(zip(("name", "born", "group", "team"), values(person))))
        check_equal(self, False, person, other)


class Ages(unittest.TestCase):

    def test_the_first_two_years(self):
        for born in (-40000, -1000, -366, -365, -1, 0, 1, 5, 39000):
            person = Person("ann", born)
            for days, age in ((0, 0), (1, 0), (364, 0), (365, 1), (366, 1), (729, 1), (730, 2)):
                self.assertEqual(person.age_on(born + days), age, (born, days))

    def test_whole_years_and_one_day_ahead(self):
        for born in (-40000, -20000, -3, 0, 7):
            person = Person("ann", born)
            for years in range(1, 1 + (40000 - born) // 365):
                self.assertEqual(person.age_on(born + 365 * years), years)
                self.assertEqual(person.age_on(born + 365 * years - 1), years - 1)

    def test_the_last_day(self):
        self.assertEqual(Person("ann", -40000).age_on(40000), 219)
        self.assertEqual(Person("ann", 40000).age_on(40000), 0)
        self.assertEqual(Person("ann", 0).age_on(40000), 109)

    def test_days_below_0(self):
        person = Person("ann", -730)
        for day, age in ((-730, 0), (-366, 0), (-365, 1), (-1, 1), (0, 2)):
            self.assertEqual(person.age_on(day), age)

    def test_by_name(self):
        self.assertEqual(Person("ann", 5).age_on(day=370), 1)

    def test_no_day(self):
        for born in (-40000, -5, 0, 5, 40000):
            person = Person("ann", born)
            for thing in NO_DAYS + [born - 1]:
                self.assertIs(refused(person.age_on, thing), NoDay, repr(thing)[:80])
                self.assertIs(refused(person.age_on, day=thing), NoDay)

    def test_each_day_ahead_of_born(self):
        person = Person("ann", 5)
        for day in (4, 0, -1, -360, -361, -40000):
            self.assertIs(refused(person.age_on, day), NoDay)

    def test_asking_changes_nothing(self):
        person = Person("ann", 5, "girls", "reds")
        for day in (5, 400, 4, None, "x", 400):
            refused(person.age_on, day)
            str(person)
            repr(person)
        self.assertEqual(values(person), ("ann", 5, "girls", "reds"))
        self.assertEqual([person.age_on(400) for _ in range(3)], [1, 1, 1])


if __name__ == "__main__":
    unittest.main()
