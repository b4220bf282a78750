"""Sheets written and read, and told to a book: 8.1."""

import unittest

from bestsbook.book import Book
from bestsbook.deeds import Deed
from bestsbook.errors import NoBook, NoSheet, NoText
from bestsbook.lines import read_sheet, sheet_text, told_all
from bestsbook.people import Person
from bestsbook.sheets import Sheet
from tests.books import busy, empty, full, put, run, unmade
from tests.things import anything, but, but_days, refusal, refused

LINE = "ann run 1234 5 0 0 yard"
WORDS = LINE.split(" ")


def lines(many):
    """As many lines of unlike deeds."""
    return [f"ann run {1 + number} {number - 3} {number % 24} {number - 9} yard" for number in range(many)]


def with_word(at, word):
    """The line, with another word at a place."""
    return " ".join(WORDS[:at] + [word] + WORDS[at + 1:])


class Lines(unittest.TestCase):

    def assert_bad(self, text, line):
        """Check that a text writes no sheet, and which line is told."""
        for call, named in ((lambda: read_sheet(text), False), (lambda: read_sheet(text=text), True)):
            with self.assertRaises(NoText, msg=repr(text)[:80]) as caught:
                call()
            self.assertIs(type(caught.exception), NoText)
            self.assertIs(type(caught.exception.line), int)
            self.assertEqual(caught.exception.line, line, (repr(text)[:80], named))

    def assert_bad_line(self, line):
        """Check that a line is bad wherever it stands."""
        self.assert_bad(line, 0)
        self.assert_bad("\n".join([line, LINE]), 0)
        self.assert_bad("\n".join([LINE, line]), 1)
        self.assert_bad("\n".join(lines(30) + [line] + lines(29)), 30)
        self.assert_bad("\n".join(lines(59) + [line]), 59)
        # The first one of two.
        self.assert_bad("\n".join(lines(7) + [line] + lines(3) + [line]), 7)


class SheetText(Lines):

    def test_none(self):
        for sheet in (Sheet(), Sheet([]), Sheet(())):
            self.assertEqual(sheet_text(sheet), "none")

    def test_str_of_it(self):
        self.assertEqual(sheet_text(Sheet([Deed("ann", "run", 1234, 5)])), LINE)
        self.assertEqual(sheet_text(sheet=Sheet([Deed("ann", "run", 1234, -5, 23, -99, "hill"), Deed("b", "c", 1, 0)])),
                         "ann run 1234 -5 23 -99 hill\nb c 1 0 0 0 yard")
        for many in (1, 2, 60):
            sheet = read_sheet("\n".join(lines(many)))
            self.assertEqual(sheet_text(sheet), str(sheet))
            self.assertEqual(sheet_text(sheet), "\n".join(lines(many)))

    def test_no_sheet(self):
        for thing in but(Sheet) + [[Sheet()], LINE, "none"]:
            self.assertEqual(refusal(sheet_text, thing), (NoSheet, None), repr(thing)[:80])
            self.assertEqual(refusal(sheet_text, sheet=thing), (NoSheet, None))


class ReadSheet(Lines):

    def assert_reads(self, text, *deeds):
        for sheet in (read_sheet(text), read_sheet(text=text)):
            self.assertIsInstance(sheet, Sheet)
            self.assertEqual([deed.parts() for deed in sheet.all_deeds()], [deed.parts() for deed in deeds])

    def test_none(self):
        self.assert_reads("none")
        self.assertTrue(read_sheet("none") == Sheet())

    def test_one_line(self):
        self.assert_reads(LINE, Deed("ann", "run", 1234, 5))
        self.assert_reads("a b 1 -1 1 -1 c", Deed("a", "b", 1, -1, 1, -1, "c"))
        self.assert_reads("none none 1 0 0 0 none", Deed("none", "none", 1, 0, 0, 0, "none"))

    def test_bounds(self):
        self.assert_reads("abcdefgh stuvwxyz 1000000 40000 23 99 ijklmnop",
                          Deed("abcdefgh", "stuvwxyz", 10 ** 6, 40000, 23, 99, "ijklmnop"))
        self.assert_reads("z a 1 -40000 0 -99 q", Deed("z", "a", 1, -40000, 0, -99, "q"))

    def test_several_lines_in_their_order(self):
        self.assert_reads("bob put 9 7 1 2 hill\nann run 1234 5 0 0 yard\nbob put 9 7 1 2 hill",
                          Deed("bob", "put", 9, 7, 1, 2, "hill"), Deed("ann", "run", 1234, 5),
                          Deed("bob", "put", 9, 7, 1, 2, "hill"))

    def test_what_is_written_is_read(self):
        for many in (0, 1, 2, 17, 59, 60):
            sheet = Sheet([Deed("ann", "run", 1 + number, number - 30, number % 24, number - 30, "yard")
                           for number in range(many)])
            self.assertEqual(read_sheet(sheet_text(sheet)).all_deeds(), sheet.all_deeds())

    def test_sixty_lines_and_more(self):
        self.assertEqual(len(read_sheet("\n".join(lines(60)))), 60)
        for more in (LINE, "", "none", "x", " "):
            self.assert_bad("\n".join(lines(60) + [more]), 60)
            self.assert_bad("\n".join(lines(60) + [more, LINE]), 60)
            self.assert_bad("\n".join(lines(60) + [more, "x"]), 60)
        self.assert_bad("\n".join(lines(100)), 60)
        self.assert_bad("\n".join(lines(59) + ["x"] + lines(9)), 59)
        self.assert_bad("\n".join(["x"] + lines(70)), 0)

    def test_nothing(self):
        self.assert_bad("", 0)
        self.assert_bad("\n", 0)
        self.assert_bad_line("")

    def test_a_line_feed_at_an_end(self):
        self.assert_bad(LINE + "\n", 1)
        self.assert_bad(LINE + "\n" + LINE + "\n", 2)
        self.assert_bad("\n" + LINE, 0)
        self.assert_bad(LINE + "\n\n" + LINE, 1)
        self.assert_bad("\n".join(lines(60)) + "\n", 60)

    def test_none_beside_lines_and_written_otherwise(self):
        for text in ("none\n", "\nnone", "none\nnone", "none\n" + LINE, " none", "none ", "None", "NONE", "non", "nones"):
            self.assert_bad(text, 0)
        self.assert_bad(LINE + "\nnone", 1)

    def test_a_word_more_or_less(self):
        for at in range(7):
            self.assert_bad_line(" ".join(WORDS[:at] + WORDS[at + 1:]))
            self.assert_bad_line(" ".join(WORDS[:at] + [WORDS[at]] + WORDS[at:]))
        for more in ("yard", "0", "-", "x"):
            self.assert_bad_line(LINE + " " + more)
            self.assert_bad_line(more + " " + LINE)
        for many in range(1, 7):
            self.assert_bad_line(" ".join(WORDS[:many]))

    def test_blanks_elsewhere(self):
        for at in range(1, 7):
            self.assert_bad_line(" ".join(WORDS[:at]) + "  " + " ".join(WORDS[at:]))
        for line in (" " + LINE, LINE + " ", "  " + LINE, " ", "      ", "       ", LINE.replace(" ", "")):
            self.assert_bad_line(line)

    def test_tabs(self):
        for line in (LINE.replace(" ", "\t"), LINE.replace(" ", "\t", 1), "\t" + LINE, LINE + "\t", LINE + " \t",
                     "ann run 1234\t5 0 0 yard", "ann run 1234 5 0\t 0 yard", "ann run 1234 \t5 0 0 yard"):
            self.assert_bad_line(line)

    def test_a_line_feed_in_a_line(self):
        self.assert_bad("ann run 1234 5 0 0\nyard", 0)
        self.assert_bad(LINE + "\nann run 1234 5 0\n0 yard", 1)
        self.assert_bad(LINE + "\r\n" + LINE, 0)

    def test_words_that_are_no_numbers(self):
        wrong = ("", "x", "-", "+", "+1", "+0", "-0", "--1", "01", "00", "007", "-01", "-00", "1-", "1.0", "1.", ".1",
                 "1e3", "0x1", "1_0", "1,0", "1'", "\u0661", "\u00b2", "\uff11", "one", "True", "None", "~1", "1x",
                 "x1", "1\t", "\t1", "0b1", "- 1")
        for at in range(2, 6):
            for word in wrong:
                self.assert_bad_line(with_word(at, word))

    def test_each_sign_beside_a_figure(self):
        for code in range(32, 127):
            sign = chr(code)
            for word in (sign, sign + "1", "1" + sign, "1" + sign + "1"):
                if not sign.isdigit() and word != "-1":
                    self.assert_bad(with_word(5, word), 0)

    def test_numbers_of_seven_and_of_eight_figures(self):
        self.assert_reads(with_word(2, "1000000"), Deed("ann", "run", 10 ** 6, 5))
        for word in ("10000000", "00001234", "0001234", "99999999", "-9999999", "-99999999", "1" * 40, "0" * 8):
            for at in range(2, 6):
                self.assert_bad_line(with_word(at, word))

    def test_words_that_make_no_deed(self):
        for at, wrong in (
            (0, ("Ann", "abcdefghi", "1", "-", "a-b", "an1", "\u00e9")), (1, ("Run", "abcdefghi", "0", "run.")),
            (2, ("0", "-1", "1000001", "9999999")), (3, ("40001", "-40001", "9999999")),
            (4, ("24", "-1", "99")), (5, ("100", "-100")), (6, ("Yard", "abcdefghi", "7", "yard,")),
        ):
            for word in wrong:
                self.assert_bad_line(with_word(at, word))

    def test_words_at_the_places_of_others(self):
        for line in ("1234 run ann 5 0 0 yard", "ann 1234 run 5 0 0 yard", "ann run 1234 5 0 yard 0",
                     "yard 0 0 5 1234 run ann"):
            self.assert_bad_line(line)

    def test_what_is_no_text(self):
        for thing in but(str) + [LINE.encode(), [LINE], (LINE,), Sheet()]:
            self.assert_bad(thing, -1)

    def test_texts_of_any_kind(self):
        for thing in anything():
            if isinstance(thing, str) and thing != "none":
                self.assert_bad(thing, 0)


class ToldAll(Lines):

    def test_none(self):
        book = empty()
        self.assertEqual(told_all(book, Sheet()), [])
        self.assertTrue(book == empty())

    def test_numbers(self):
        book, other = busy(), busy()
        deeds = [run("ann", 60, 5), put("bob", 9, 4, 2), run("dee", 60, 5, 1)]
        told = told_all(book, Sheet(deeds))
        self.assertIs(type(told), list)
        self.assertEqual(told, [6, 7, 8])
        for deed in deeds:
            other.tell(deed)
        self.assertTrue(book == other)
        self.assertEqual(len(unmade(book)), len(unmade(other)))

    def test_known(self):
        deeds = [run("ann", 60, 5), run("ann", 61, 6), run("ann", 62, 7), run("ann", 63, 8)]
        for values, named, expected in (
            ((), {}, [0, 1, 2, 3]), ((None,), {}, [0, 1, 2, 3]), ((), {"known": None}, [0, 1, 2, 3]),
            ((8,), {}, [0, 1, 2, 3]), ((), {"known": 40000}, [0, 1, 2, 3]), ((7,), {}, [0, 1, 2, "NoDay"]),
            ((6,), {}, [0, 1, "NoDay", "NoDay"]), ((4,), {}, ["NoDay"] * 4), ((-40000,), {}, ["NoDay"] * 4),
        ):
            book, other = empty(), empty()
            self.assertEqual(told_all(book, Sheet(deeds), *values, **named), expected)
            known = values[0] if values else named.get("known")
            for deed, becomes in zip(deeds, expected):
                if becomes != "NoDay":
                    other.tell(deed, known)
            self.assertTrue(book == other)
        book = empty()
        self.assertEqual(told_all(known=6, sheet=Sheet(deeds), book=book), [0, 1, "NoDay", "NoDay"])

    def test_known_is_no_day(self):
        for thing in but_days():
            if thing is not None:
                book = busy()
                self.assertEqual(told_all(book, Sheet([run("ann", 60, 5), run("zed", 61, 6)]), thing),
                                 ["NoDay", "NoDay"], repr(thing)[:80])
                self.assertEqual(told_all(book, Sheet(), thing), [])
                self.assertTrue(book == busy())
                self.assertEqual(len(unmade(book)), 16)

    def test_each_class_that_refuses(self):
        book = empty()
        deeds = [run("ann", 60, 5), run("zed", 60, 5), Deed("ann", "hop", 60, 5), run("dee", 60, 1), run("ann", 60, 5),
                 run("ann", 60, 9), run("bob", 60, 5), run("zed", 60, 5), run("dee", 60, 5), run("bob", 60, 5)]
        self.assertEqual(told_all(book, Sheet(deeds), 8),
                         [0, "Unknown", "NoEvent", "Unborn", "Clash", "NoDay", 1, "Unknown", 2, "Clash"])
        self.assertEqual(len(book), 3)
        self.assertEqual([book.state(number, 7) for number in range(3)], ["untold"] * 3)

    def test_one_behind_the_other(self):
        book = empty()
        self.assertEqual(told_all(book, Sheet([run("ann", 60, 5)] * 3 + [run("ann", 61, 5)] * 2)),
                         [0, "Clash", "Clash", 1, "Clash"])

    def test_full(self):
        book = full(98)
        deeds = [run("bob", 1 + number, 3) for number in range(4)]
        self.assertEqual(told_all(book, Sheet(deeds + [run("ann", 1, 3), run("zed", 1, 3)])),
                         [98, 99, "Full", "Full", "Clash", "Unknown"])
        self.assertEqual(len(book), 100)
        self.assertEqual(told_all(full(), Sheet([run("bob", 1 + number, 3) for number in range(60)])), ["Full"] * 60)

    def test_texts_and_numbers(self):
        told = told_all(empty(), Sheet([run("ann", 60, 5), run("zed", 60, 5)]))
        self.assertEqual([type(becomes) for becomes in told], [int, str])

    def test_the_first_that_refuses(self):
        book = empty()
        deeds = [Deed("zed", "hop", 60, 9), Deed("zed", "hop", 60, 5), Deed("dee", "hop", 60, 1)]
        self.assertEqual(told_all(book, Sheet(deeds), 8), ["NoDay", "Unknown", "NoEvent"])

    def test_each_can_be_undone(self):
        book = empty()
        told_all(book, Sheet([run("ann", 60, 5), run("zed", 60, 5), run("bob", 60, 5)]))
        book.undo()
        self.assertEqual(len(book), 1)
        book.undo()
        self.assertTrue(book == empty())

    def test_no_book(self):
        for thing in but(Book) + [[busy()], Person("ann", 5)]:
            for sheet in (Sheet(), Sheet([run("ann", 60, 5)]), None, "none"):
                self.assertIs(refused(told_all, thing, sheet), NoBook, repr(thing)[:80])
                self.assertIs(refused(told_all, known="x", sheet=sheet, book=thing), NoBook)

    def test_no_sheet(self):
        book = busy()
        for thing in but(Sheet) + [[Sheet()], [run("ann", 60, 5)], LINE]:
            for known in (None, 5, "x"):
                self.assertIs(refused(told_all, book, thing, known), NoSheet, repr(thing)[:80])
            self.assertIs(refused(told_all, sheet=thing, book=book), NoSheet)
        self.assertTrue(book == busy())
        self.assertEqual(len(unmade(book)), 16)

    def test_the_sheet_as_it_was(self):
        deeds = [run("ann", 60, 5), run("zed", 60, 5)]
        sheet = Sheet(deeds)
        told = told_all(empty(), sheet)
        told.clear()
        self.assertTrue(sheet == Sheet(deeds))
        self.assertEqual(told_all(empty(), sheet), [0, "Unknown"])


if __name__ == "__main__":
    unittest.main()
