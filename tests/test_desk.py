"""A desk and its lines: 9.1 and 9.2."""

import unittest

from bestsbook.book import Book
from bestsbook.deeds import Deed
from bestsbook.desk import Desk
from bestsbook.errors import (
    Clash, Full, Gone, NoBook, NoClass, NoDay, NoDeed, NoEvent, NoEvents, NoLine, NoPerson, NoRules, NoText, NoUndo,
    Unborn, Unknown,
)
from bestsbook.people import Person
from bestsbook.rules import Rules
from tests.books import answers
from tests.things import anything, but, refusal, refused

NEW = "book run-w,put+ 12,16 -"
PEOPLE = ("enrol ann -4745 girls reds", "enrol bob -5840 boys -", "enrol cy -4315 boys reds", "enrol dee 2 girls -")
# A line of each kind that a desk with the book above takes, with a deed of number 0.
TAKEN = (
    NEW, "enrol zed 0 open -", "tell ann run 60 5 0 0 yard", "late 9 ann run 60 5 0 0 yard", "strike 0 5", "restore 0 5",
    "measure yard 1 2 3", "uphold yard 3", "undo", "holders run - 2", "stints run - 2", "why 0 run - 2", "state 0",
    "break run - 2", "many",
)
NUMBERS = ("x", "", "+1", "-0", "01", "007", "1.0", "--1", "-", "1-", "12345678", "-12345678", "1\t", "\t1", "1\n",
           "\n", "ann", "1,2", "\u0661", "1_0", "0x1", "-01", "00")
NAMES = ("Ann", "abcdefghi", "1", "a1", "-a", "a-", "a,b", "ann\t", "\tann", "ann\n", "\n", "a.b", "_", "\u00e9", "+")


def desk_with(*lines):
    """A desk with the book above, its people, and what the lines tell."""
    desk = Desk()
    for line in (NEW, *PEOPLE, *lines):
        desk.say(line)
    return desk


def busy_desk():
    """A desk with papers of each kind."""
    return desk_with(
        "tell ann run 50 1 0 0 yard", "late 4 bob run 48 2 0 0 yard", "tell ann put 900 3 0 0 hill", "strike 0 5",
        "tell ann run 48 3 2 20 yard", "measure hill 2 3 6", "tell cy run 47 3 1 21 yard", "restore 0 7",
        "uphold hill 8", "tell bob put 900 4 0 0 yard", "measure yard 4 9 9")


def all_told(desk):
    """The answers to all questions."""
    numbers = range(int(desk.say("many")))
    asked = ["many"] + [f"state {number}" for number in numbers]
    for event in ("run", "put"):
        for group in ("-", "girls", "boys"):
            for place in range(3):
                best = f"{event} {group} {place}"
                asked += [f"holders {best}", f"stints {best}", f"break {best}"]
                asked += [f"why {number} {best}" for number in numbers]
    return [desk.say(line) for line in asked]


class Says(unittest.TestCase):

    def check(self, desk, *pairs):
        """Check what a desk answers to lines, one behind the other."""
        for line, answer in pairs:
            self.assertEqual(desk.say(line), answer, line)

    def check_refused(self, desk, expected, *lines):
        """Check what refuses lines, as (class, field), and that they change nothing."""
        for line in lines:
            self.assertEqual(refusal(desk.say, line), expected, repr(line)[:80])
            self.assertEqual(refusal(desk.say, line=line), expected)

    def check_unchanged(self, make, expected, *lines):
        """Check what refuses lines, and that a desk that was told them is as one that was not."""
        desk, other = make(), make()
        self.check_refused(desk, expected, *lines)
        self.assertEqual(all_told(desk), all_told(other))
        while refused(other.say, "undo") is None:
            self.assertEqual(desk.say("undo"), "ok")
        self.assertIs(refused(desk.say, "undo"), NoUndo)


class NewBook(Says):

    def book_of(self, line):
        """What is seen of the book of a line, by what it takes and tells."""
        desk = Desk()
        self.assertEqual(desk.say(line), "ok")
        self.assertEqual(desk.say("many"), "0")
        return desk

    def test_ok(self):
        for line in (NEW, "book run- - -", "book run-w - own", "book a+,b-,c+w,d-w 1,2,3,4 alone,own",
                     "book abcdefgh- 99 alone", "book w- 1 -", "book w-w - -", "book ww+w - -"):
            self.book_of(line)

    def test_events(self):
        desk = self.book_of("book run-w,put+,row-,hop+w - -")
        desk.say("enrol ann 0 open -")
        number = 0
        for event, first, then, windy in (("run", 9, 8, True), ("put", 8, 9, False), ("row", 9, 8, False),
                                          ("hop", 8, 9, True)):
            desk.say(f"tell ann {event} {first} 1 0 20 yard")
            desk.say(f"tell ann {event} {then} 2 0 20 yard")
            desk.say(f"tell ann {event} {first} 3 0 21 yard")
            self.check(desk, (f"stints {event} - 0", f"{number}:ann {number + 1}:ann"),
                       (f"state {number + 2}", "wind" if windy else "good"))
            number += 3
        self.check_refused(desk, (NoEvent, "swim"), "holders swim - 0")
        for event, name in (("w-w", "w"), ("ww-w", "ww"), ("w-", "w"), ("row+", "row"), ("w+w", "w")):
            self.check(self.book_of(f"book {event} - -"), (f"holders {name} - 0", "none"))

    def test_limits(self):
        for word, many in (("-", 1), ("1", 2), ("12", 2), ("12,16", 3), ("1,2,3,99", 5), ("98,99", 3)):
            desk = self.book_of(f"book run- {word} -")
            self.check(desk, (f"holders run - {many - 1}", "none"))
            self.check_refused(desk, (NoClass, None), f"holders run - {many}")
        desk = self.book_of("book run- 12,16 -")
        desk.say("enrol ann 0 open -")
        for age, place in ((11, 0), (12, 1), (15, 1), (16, 2)):
            desk.say(f"tell ann run 50 {365 * age} 0 0 yard")
            number = int(desk.say("many")) - 1
            self.check(desk, *[(f"why {number} run - {at}", "other") for at in range(place)])
            self.assertNotEqual(desk.say(f"why {number} run - {place}"), "other")

    def test_options(self):
        for word, shares, up in (("-", True, True), ("alone", False, True), ("own", True, False),
                                 ("alone,own", False, False)):
            desk = self.book_of(f"book run- 12 {word}")
            for name in ("ann", "bob"):
                desk.say(f"enrol {name} 0 open -")
                desk.say(f"tell {name} run 50 1 0 0 yard")
            both = "50 ann bob" if shares else "50 ann"
            self.check(desk, ("holders run - 0", both), ("holders run - 1", both if up else "none"))

    def test_wind_20(self):
        desk = self.book_of("book run-w - -")
        desk.say("enrol ann 0 open -")
        for wind, word in ((20, "good"), (21, "wind"), (-99, "good"), (99, "wind")):
            number = desk.say(f"tell ann run 50 1 0 {wind} yard")
            self.check(desk, (f"state {number}", word))

    def test_events_written_otherwise(self):
        for word in ("run", "run-x", "run-W", "run-ww", "-", "+", "-w", "w", "run-,", ",run-", "run-,,put+",
                     "run--", "run+-", "-run", "Run-", "abcdefghi-", "run-,put", "run-;put+", "run-.put+", "run-w+",
                     "run*", "run-1", "r1-", "run-put+", ",", "run-w,", "run-\t", "\trun-", "run-\n",
                     "run\u2212", "run-w,put+,x"):
            self.check_unchanged(busy_desk, (NoText, 0), f"book {word} 12,16 -")

    def test_limits_written_otherwise(self):
        for word in ("x", "12,", ",12", "12,,16", ",", "--", "-,12", "12,-", "-0", "+1", "01", "12,016", "12;16",
                     "12.16", "12345678", "12,12345678", "none", "()", "12\t", "12\n,16", "alone", "12-16", "1e1"):
            self.check_unchanged(busy_desk, (NoText, 0), f"book run-w,put+ {word} -")

    def test_options_written_otherwise(self):
        for word in ("own,alone", "alone,alone", "own,own", "alone,own,own", "-,own", "alone,-", "alone,", ",own", ",",
                     "--", "Alone", "up", "aloneown", "none", "alone;own", "own\t", "\nown", "alon", "w", "0"):
            self.check_unchanged(busy_desk, (NoText, 0), f"book run-w,put+ 12,16 {word}")

    def test_no_rules(self):
        for word in ("16,12", "12,12", "0", "100", "-1", "12,100", "0,12", "1,2,3,4,5", "-5,-4", "9999999", "1,2,2"):
            self.check_unchanged(busy_desk, (NoRules, None), f"book run-w,put+ {word} -", f"book run- {word} alone,own")

    def test_no_events(self):
        for word in ("run-,run-", "run-,run+", "run-w,run-", "a-,b-,c-,a+w", "a-,b-,c-,d-,e-", "a-,a-,a-,a-,a-"):
            self.check_unchanged(busy_desk, (NoEvents, None), f"book {word} 12,16 -", f"book {word} - alone")

    def test_text_then_rules_then_events(self):
        self.check_unchanged(busy_desk, (NoText, 0), "book run 16,12 -", "book run-,run- 16,12 up", "book run-,run- x -",
                             "book run-,run- 12 own,alone", "book run x up", "book run- 16,12 up")
        self.check_unchanged(busy_desk, (NoRules, None), "book run-,run- 16,12 -", "book a-,b-,c-,d-,e- 0 own")

    def test_a_new_book_forgets_the_old_one(self):
        desk = busy_desk()
        self.check(desk, ("many", "6"), (NEW, "ok"), ("many", "0"), ("holders run - 2", "none"))
        self.check_refused(desk, (NoUndo, None), "undo")
        self.check_refused(desk, (Gone, 0), "state 0")
        self.check_refused(desk, (Unknown, "ann"), "tell ann run 50 3 0 0 yard")
        self.check(desk, ("enrol ann 5 girls -", "ok"), ("tell ann run 50 5 0 0 yard", "0"))


class Papers(Says):

    def test_enrol(self):
        desk = desk_with()
        self.check(desk, ("enrol zed -40000 open blues", "ok"), ("enrol zed -40000 open blues", "ok"),
                   ("enrol eve 0 girls -", "ok"))
        for team in ("q", "x", "blues", "none", "open", "girls", "eve"):
            self.assertEqual(refusal(desk.say, f"enrol eve 0 girls {team}"), (Clash, None), team)
        for line in ("enrol zed -40000 open -", "enrol zed -40000 girls blues", "enrol zed -39999 open blues",
                     "enrol eve 0 girls blues", "enrol ann 0 open -"):
            self.assertEqual(refusal(desk.say, line), (Clash, None), line)
        self.check(desk, ("tell zed run 50 0 0 0 yard", "0"), ("tell eve run 50 0 0 0 yard", "1"),
                   ("holders run open 2", "50 zed"), ("holders run girls 2", "50 eve"))

    def test_tell(self):
        desk = desk_with()
        self.check(desk, ("tell ann run 50 3 2 -4 yard", "0"), ("tell bob put 1000000 40000 23 99 hill", "1"),
                   ("many", "2"), ("why 0 run - 1", "held 3.2 still"), ("why 1 put - 2", "held 40000.23 still"),
                   ("state 1", "good"))
        for number in range(2, 12):
            self.check(desk, (f"tell ann run {60 + number} 3 0 0 yard", str(number)))

    def test_the_deed_of_the_seven_words(self):
        book = Book((("run", "less", True), ("put", "more", False)), Rules((12, 16)))
        for words in (line.split(" ") for line in PEOPLE):
            book.enrol(Person(words[1], int(words[2]), words[3], words[4].replace("-", "")))
        desk = desk_with()
        for number, (known, deed) in enumerate((
            (None, Deed("ann", "run", 50, 3, 2, -4, "yard")), (9, Deed("bob", "run", 49, 4, 5, 6, "hill")),
            (None, Deed("cy", "put", 7, 8, 9, 10, "abcdefgh")), (40000, Deed("dee", "run", 1, 2, 3, 4, "five")),
        )):
            self.assertEqual(book.tell(deed, known), number)
            self.check(desk, ((f"tell {deed}" if known is None else f"late {known} {deed}"), str(number)))
        for known in ("5 6 9", "2 4 40000"):
            for name in ("yard", "hill", "abcdefgh", "five"):
                since, till, day = known.split(" ")
                book.measure(name, int(since), int(till), int(day))
                self.check(desk, (f"measure {name} {known}", "ok"))
                self.assertEqual([desk.say(f"state {number}") for number in range(4)],
                                 [book.state(number) for number in range(4)])
        self.assertEqual([desk.say(f"why {number} run girls 2") for number in range(4)],
                         ["course", "course", "other", "course"])

    def test_late(self):
        desk = desk_with("tell ann run 50 3 0 0 yard", "strike 0 5")
        self.check(desk, ("late 9 bob run 49 3 0 0 yard", "1"), ("late 3 cy run 48 3 0 0 yard", "2"),
                   ("late 40000 dee run 47 3 0 0 yard", "3"), ("many", "4"))

    def test_known_is_told(self):
        # What is known later is taken later: so the days that lines tell show.
        desk = desk_with("tell ann run 50 3 0 0 yard")
        self.check(desk, ("strike 0 6", "ok"), ("restore 0 5", "ok"), ("state 0", "struck"), ("restore 0 6", "ok"),
                   ("state 0", "good"), ("strike 0 5", "ok"), ("state 0", "good"), ("strike 0 7", "ok"),
                   ("state 0", "struck"), ("restore 0 -40000", "ok"), ("state 0", "struck"), ("restore 0 40000", "ok"),
                   ("state 0", "good"))
        self.check(desk, ("measure yard 3 3 6", "ok"), ("uphold yard 5", "ok"), ("state 0", "course"),
                   ("uphold yard 6", "ok"), ("state 0", "good"), ("measure yard 3 3 5", "ok"), ("state 0", "good"),
                   ("measure yard 3 3 7", "ok"), ("state 0", "course"))

    def test_measure(self):
        desk = desk_with(*[f"tell ann run 50 {day} 0 0 yard" for day in range(6)])
        self.check(desk, ("measure yard 2 4 9", "ok"), ("measure hill 0 9 9", "ok"))
        self.assertEqual([desk.say(f"state {number}") for number in range(6)],
                         ["good", "good", "course", "course", "course", "good"])
        self.check(desk, ("uphold hill 9", "ok"), ("state 2", "course"), ("uphold yard 9", "ok"), ("state 2", "good"))

    def test_undo(self):
        desk = busy_desk()
        told = []
        # Four people, six deeds, five others.
        for _ in range(15):
            told.append(all_told(desk))
            self.check(desk, ("undo", "ok"))
        self.check_refused(desk, (NoUndo, None), "undo")
        self.check(desk, ("many", "0"))
        self.assertEqual(told[0], all_told(busy_desk()))
        other = busy_desk()
        other.say("undo")
        self.assertEqual(told[1], all_told(other))


class Questions(Says):

    def test_holders(self):
        desk = desk_with("tell bob run 50 3 0 0 yard", "tell ann run 50 3 1 0 yard", "tell cy put 9 3 1 0 yard",
                         "tell dee put 8 3 1 0 yard")
        self.check(desk, ("holders run - 2", "50 ann bob"), ("holders run - 1", "50 ann"), ("holders run - 0", "none"),
                   ("holders run girls 2", "50 ann"), ("holders run boys 2", "50 bob"), ("holders run open 2", "none"),
                   ("holders put - 0", "9 cy"), ("holders put girls 0", "8 dee"), ("holders put boys 2", "9 cy"))

    def test_stints(self):
        desk = desk_with("tell bob run 50 3 0 0 yard", "tell ann run 50 3 1 0 yard", "tell cy run 51 2 1 0 yard",
                         "tell dee run 60 3 1 0 yard")
        self.check(desk, ("stints run - 2", "2:cy 0:bob 1:ann"), ("stints run - 1", "2:cy 1:ann"),
                   ("stints run girls 0", "3:dee"), ("stints run boys 2", "2:cy 0:bob"), ("stints put - 2", "none"),
                   ("stints run open 2", "none"))

    def test_why(self):
        desk = desk_with("tell ann run 50 3 0 0 yard", "tell bob run 50 3 23 0 yard", "tell cy run 51 -40 2 0 yard",
                         "tell dee run 40 40 2 0 yard", "tell ann run 41 41 0 0 yard", "tell ann run 1 3 0 21 yard",
                         "tell bob run 1 4 0 0 hill", "tell bob run 1 5 0 0 yard", "strike 7 7", "measure hill 4 4 4")
        self.check(desk, ("why 2 run - 2", "held -40.2 3.0"), ("why 0 run - 2", "held 3.0 40.2"),
                   ("why 1 run - 2", "held 3.23 40.2"), ("why 3 run - 2", "held 40.2 still"),
                   ("why 4 run - 2", "behind 3"), ("why 5 run - 2", "wind"), ("why 6 run - 2", "course"),
                   ("why 7 run - 2", "struck"), ("why 0 run - 0", "other"), ("why 0 run boys 2", "other"),
                   ("why 0 put - 2", "other"), ("why 4 run girls 1", "behind 3"), ("why 1 run boys 2", "held 3.23 still"))

    def test_state(self):
        desk = desk_with("tell ann run 50 3 0 0 yard", "tell ann run 1 3 0 21 yard", "tell bob run 1 4 0 0 hill",
                         "tell bob run 1 5 0 0 yard", "strike 3 7", "measure hill 4 4 4",
                         "late 40000 bob run 1 6 0 0 yard")
        self.check(desk, ("state 0", "good"), ("state 1", "wind"), ("state 2", "course"), ("state 3", "struck"),
                   ("state 4", "good"))

    def test_break(self):
        desk = desk_with("tell ann run 50 3 0 0 yard", "tell bob run 1 3 0 0 yard", "tell ann put 9 3 0 0 yard",
                         "tell bob put 1000000 3 0 0 yard")
        self.check(desk, ("break run girls 2", "49"), ("break run - 2", "none"), ("break run - 1", "49"),
                   ("break run - 0", "1000000"), ("break put girls 1", "10"), ("break put - 2", "none"),
                   ("break put - 0", "1"), ("break put open 2", "1"))

    def test_many(self):
        desk = desk_with()
        for number in range(12):
            self.check(desk, ("many", str(number)), (f"tell ann run {60 + number} 3 0 0 yard", str(number)))
        desk.say("strike 0 0")
        self.check(desk, ("many", "12"), ("undo", "ok"), ("many", "12"), ("undo", "ok"), ("many", "11"))

    def test_asking_changes_nothing(self):
        desk = busy_desk()
        was = all_told(desk)
        self.assertEqual(all_told(desk), was)
        self.assertEqual(was, all_told(busy_desk()))
        self.assertEqual({type(answer) for answer in was}, {str})

    def test_as_the_book_tells(self):
        desk = busy_desk()
        self.check(desk, ("holders run - 2", "48 ann bob"), ("stints run - 2", "0:ann 1:bob 3:ann"),
                   ("stints put - 2", "2:ann"), ("why 5 put - 2", "course"), ("break run - 2", "47"))


class Lines(Says):

    def test_each_line_is_taken(self):
        for line in TAKEN:
            desk = desk_with("tell ann run 50 3 0 0 yard")
            self.assertIs(type(desk.say(line)), str)
            self.assertIs(type(desk_with("tell ann run 50 3 0 0 yard").say(line=line)), str)

    def check_no_lines(self, *lines):
        self.check_refused(Desk(), (NoLine, None), *lines)
        self.check_unchanged(busy_desk, (NoLine, None), *lines)

    def test_a_word_more_or_less(self):
        for line in TAKEN:
            words = line.split(" ")
            self.check_no_lines(line + " 0", line + " x", line + " -", line + " " + words[-1], "x " + line)
            for at in range(len(words)):
                less = " ".join(words[:at] + words[at + 1:])
                self.check_no_lines(less)

    def test_words_of_one_kind_of_line_behind_another_first_word(self):
        many = {line.split(" ")[0]: len(line.split(" ")) for line in TAKEN}
        for line in TAKEN:
            words = line.split(" ")
            for first in many:
                if many[first] != len(words):
                    self.check_no_lines(" ".join([first] + words[1:]))

    def test_blanks_elsewhere(self):
        for line in TAKEN:
            self.check_no_lines(" " + line, line + " ", " " + line + " ", "  " + line, line + "  ", line + "  0")
            if " " in line:
                self.check_no_lines(line.replace(" ", "  "), line.replace(" ", "  ", 1))
        # A word less, but as many parts.
        self.check_no_lines("state ", " state", "strike  5", "undo ", " many", "holders run  2", "book  - -")

    def test_tabs_and_line_feeds(self):
        for line in TAKEN:
            words = line.split(" ")
            self.check_no_lines(*[line + sign if len(words) == 1 else line.replace(" ", sign)
                                  for sign in ("\t", "\n")])
            self.check_no_lines(words[0] + "\t " + " ".join(words[1:]), "\n" + line, "\t" + line)
            if len(words) > 1:
                self.check_no_lines(line.replace(" ", "\t", 1), line + " \t", line + " \n")
        for line in ("undo\n", "many\t", "undo\tundo", "many\nmany", "\n", "\t"):
            self.check_no_lines(line)

    def test_a_tab_or_a_line_feed_is_a_sign_of_its_word(self):
        for line in TAKEN:
            words = line.split(" ")
            for at in range(1, len(words)):
                for sign in ("\t", "\n"):
                    for word in (words[at] + sign, sign + words[at], sign):
                        self.check_refused(busy_desk(), (NoText, 0), " ".join(words[:at] + [word] + words[at + 1:]))

    def test_another_first_word(self):
        for line in TAKEN:
            words = line.split(" ")
            for first in (words[0].upper(), words[0].title(), words[0] + "s", words[0][:-1], "x", "-", "0", "none"):
                if first:
                    self.check_no_lines(" ".join([first] + words[1:]))
        self.check_no_lines("measured yard 1 2 3", "twin", "bests 0", "len", "show", "help", "break", "state", "tell")

    def test_nothing_and_anything(self):
        self.check_no_lines("", " ", "  ", "\n")
        for thing in but(str) + [["undo"], ("undo",), b"undo", {"undo": 1}]:
            self.check_refused(Desk(), (NoLine, None), thing)
            self.check_refused(busy_desk(), (NoLine, None), thing)
        self.check_no_lines(*[thing for thing in anything() if isinstance(thing, str)])


class WithoutABook(Says):

    def test_each_line_but_book(self):
        desk = Desk()
        for line in TAKEN[1:]:
            self.check_refused(desk, (NoBook, None), line)
        self.check(desk, (NEW, "ok"), ("many", "0"))

    def test_behind_no_line(self):
        desk = Desk()
        for line in TAKEN:
            self.check_refused(desk, (NoLine, None), line + " x", line + " ", "x" + line)

    def test_ahead_of_all_else(self):
        self.check_refused(Desk(), (NoBook, None), "state x", "state -0", "strike 0 99999", "enrol Ann 99999 x1 y2",
                           "tell Ann run 0 0 0 0 yard", "holders - - -", "why x y z w", "measure yard 9 1 0", "undo")

    def test_a_book_line_that_is_refused_leaves_none(self):
        desk = Desk()
        for line, expected in (("book run 12 -", (NoText, 0)), ("book run- x -", (NoText, 0)), ("book run- 12 x",
                               (NoText, 0)), ("book run- 0 -", (NoRules, None)), ("book run-,run- - -", (NoEvents, None)),
                               ("book run-", (NoLine, None))):
            self.check_refused(desk, expected, line)
            self.check_refused(desk, (NoBook, None), "many", "undo", "enrol ann 0 open -")


class Refused(Says):

    def test_numbers_that_are_none(self):
        places = {"enrol": (2,), "tell": (3, 4, 5, 6), "late": (1, 4, 5, 6, 7), "strike": (1, 2), "restore": (1, 2),
                  "measure": (2, 3, 4), "uphold": (2,), "holders": (3,), "stints": (3,), "why": (1, 4), "state": (1,),
                  "break": (3,)}
        for line in TAKEN:
            words = line.split(" ")
            for at in places.get(words[0], ()):
                self.check_unchanged(busy_desk, (NoText, 0), *[
                    " ".join(words[:at] + [word] + words[at + 1:]) for word in NUMBERS if word])

    def test_names_that_are_none(self):
        places = {"enrol": (1, 3, 4), "tell": (1, 2, 7), "late": (2, 3, 8), "measure": (1,), "uphold": (1,),
                  "holders": (1, 2), "stints": (1, 2), "why": (2, 3), "break": (1, 2)}
        for line in TAKEN:
            words = line.split(" ")
            for at in places.get(words[0], ()):
                dashed = (words[0], at) in (("enrol", 4), ("holders", 2), ("stints", 2), ("why", 3), ("break", 2))
                self.check_unchanged(busy_desk, (NoText, 0), *[
                    " ".join(words[:at] + [word] + words[at + 1:]) for word in NAMES + (() if dashed else ("-",))])

    def test_numbers_of_seven_figures(self):
        self.check_refused(busy_desk(), (Gone, 9999999), "state 9999999", "strike 9999999 0", "why 9999999 run - 0")
        self.check_refused(busy_desk(), (Gone, -9999999), "state -9999999", "restore -9999999 0")
        self.check_refused(busy_desk(), (NoText, 0), "state 10000000", "state -10000000", "strike 0 10000000")
        self.check_refused(busy_desk(), (Gone, -1), "state -1", "strike -1 0")

    def test_a_text_ahead_of_all_else(self):
        self.check_unchanged(
            busy_desk, (NoText, 0), "enrol ann 99999 open X", "enrol Ann 0 open -", "tell zed run 0 5 0 0 Yard",
            "tell ann run 0 99999 0 x yard", "late x zed run 0 5 0 0 yard", "strike 99 x", "restore 99 01",
            "measure yard 9 1 +1", "holders hop - x", "stints hop Open 9", "why 99 hop Open 9", "why 99 hop - x",
            "break hop - 1x", "uphold Yard 99999", "measure Yard 9 1 99999")

    def test_no_person(self):
        self.check_unchanged(busy_desk, (NoPerson, None), "enrol zed 40001 open -", "enrol zed -40001 open reds",
                             "enrol ann 9999999 girls reds")

    def test_no_deed(self):
        for words in ("ann run 0 5 0 0 yard", "ann run -1 5 0 0 yard", "ann run 1000001 5 0 0 yard",
                      "ann run 60 40001 0 0 yard", "ann run 60 -40001 0 0 yard", "ann run 60 5 24 0 yard",
                      "ann run 60 5 -1 0 yard", "ann run 60 5 0 100 yard", "ann run 60 5 0 -100 yard",
                      "zed hop 0 5 0 0 yard"):
            self.check_unchanged(busy_desk, (NoDeed, None), "tell " + words, "late 9 " + words, "late 99999 " + words)

    def test_what_tell_and_late_refuse(self):
        self.check_unchanged(busy_desk, (NoDay, None), "late 4 ann run 60 5 0 0 yard", "late 40001 ann run 60 5 0 0 yard",
                             "late -40001 zed hop 60 5 0 0 yard", "late 4 zed run 60 5 0 0 yard")
        self.check_unchanged(busy_desk, (Unknown, "zed"), "tell zed run 60 5 0 0 yard", "late 9 zed hop 60 5 0 0 yard")
        self.check_unchanged(busy_desk, (NoEvent, "hop"), "tell ann hop 60 5 0 0 yard", "late 9 dee hop 60 1 0 0 yard")
        self.check_unchanged(busy_desk, (Unborn, None), "tell dee run 60 1 0 0 yard", "late 9 dee run 60 1 0 0 yard")
        self.check_unchanged(busy_desk, (Clash, None), "tell ann run 50 1 0 0 yard", "late 9 ann run 50 1 0 0 yard")

    def test_full(self):
        desk = desk_with(*[f"tell ann run {1 + number} 3 0 0 yard" for number in range(100)])
        self.check(desk, ("many", "100"))
        self.check_refused(desk, (Full, None), "tell bob run 1 3 0 0 yard", "late 9 bob run 1 3 0 0 yard")
        self.check(desk, ("many", "100"), ("state 99", "good"))

    def test_clash(self):
        self.check_unchanged(busy_desk, (Clash, None), "enrol ann -4745 girls -", "enrol ann -4745 boys reds",
                             "enrol bob -5840 boys reds")

    def test_what_the_others_refuse(self):
        self.check_unchanged(busy_desk, (Gone, 6), "strike 6 5", "restore 6 99999", "state 6", "why 6 hop x 9")
        self.check_unchanged(busy_desk, (NoDay, None), "strike 0 40001", "restore 5 -40001", "measure yard 3 2 1",
                             "measure yard 40001 2 1", "measure yard 1 40001 1", "measure yard 1 2 40001",
                             "uphold yard 40001")
        self.check_unchanged(busy_desk, (NoEvent, "hop"), "holders hop - 9", "stints hop girls 0", "why 0 hop - -1",
                             "break hop - 0")
        self.check_unchanged(busy_desk, (NoClass, None), "holders run - 3", "stints run girls -1", "why 0 run - 3",
                             "break run x 9999999")

    def test_no_undo(self):
        desk = Desk()
        desk.say(NEW)
        self.check_refused(desk, (NoUndo, None), "undo")
        self.check(desk, ("enrol ann 0 open -", "ok"), ("undo", "ok"))
        self.check_refused(desk, (NoUndo, None), "undo")


class TwoDesks(Says):

    def test_nothing_in_common(self):
        one, other = busy_desk(), Desk()
        self.check_refused(other, (NoBook, None), "many")
        other.say(NEW)
        self.check(other, ("many", "0"), ("enrol ann 7 boys -", "ok"), ("tell ann put 5 7 0 0 yard", "0"))
        self.assertEqual(all_told(one), all_told(busy_desk()))
        one.say("tell ann run 1 9 0 0 hill")
        one.say("book a- - -")
        self.check(other, ("many", "1"), ("holders put boys 0", "5 ann"), ("undo", "ok"), ("undo", "ok"))
        self.check_refused(other, (NoUndo, None), "undo")
        self.check_refused(one, (NoEvent, "run"), "holders run - 0")

    def test_a_desk_and_a_book(self):
        book = Book((("run", "less", True), ("put", "more", False)), Rules((12, 16)))
        was = answers(book)
        busy_desk()
        self.assertEqual(answers(book), was)


if __name__ == "__main__":
    unittest.main()
