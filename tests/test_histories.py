"""Books with many papers of all kinds, beside a book done otherwise: 6.1 to 6.6."""

import unittest

from bestsbook.book import Book
from bestsbook.errors import NoUndo
from tests.histories import GROUPS, history, tell

DAYS = (None, 3, 5, 8)


class Histories(unittest.TestCase):

    def assert_alike(self, book, model, days=DAYS):
        many = len(model.deeds())
        self.assertEqual(len(book), many)
        places = (None, *range(len(book.rules)))
        for known in days:
            self.assertEqual([book.state(number, known) for number in range(many)],
                             [model.state(number, known) for number in range(many)])
            for event in ("run", "put"):
                for group in (None, *GROUPS):
                    for place in places:
                        best = (event, group, place)
                        stints = model.stints(*best, known)
                        self.assertEqual(book.stints(*best, known), stints)
                        self.assertTrue(book.is_stints(stints, *best, known))
                        for day in (None, 2, 4, 6):
                            self.assertEqual(book.holders(*best, day, known), model.holders(*best, day, known))
                            self.assertEqual(book.to_break(*best, day, known), model.to_break(*best, day, known))

    def test_each_question(self):
        for seed in range(20):
            book, model = history(seed)
            self.assert_alike(book, model)

    def test_why_and_bests(self):
        for seed in range(100, 115):
            book, model = history(seed)
            for number in range(len(book)):
                self.assertEqual(book.bests_of(number), model.bests_of(number))
                for event in ("run", "put"):
                    for group in (None, "girls"):
                        for place in range(len(book.rules)):
                            for known in (None, 4, 8):
                                best = (event, group, place)
                                self.assertEqual(book.why(number, *best, known), model.why(number, *best, known))

    def test_undone_one_by_one(self):
        for seed in range(200, 203):
            book, model = history(seed)
            other = book.twin()
            while model.history:
                self.assert_alike(book, model, (None,))
                book.undo()
                model.history.pop()
            self.assertRaises(NoUndo, book.undo)
            self.assertTrue(book == Book(book.events, book.rules))
            self.assertEqual(len(other), len(history(seed)[1].deeds()))

    def test_told_anew(self):
        for seed in range(300, 320):
            book, model = history(seed)
            other = Book(book.events, book.rules)
            for paper in model.history:
                self.assertFalse(book == other)
                tell(other, paper)
            self.assertTrue(book == other)

    def test_there_are_answers_of_each_kind(self):
        words, whys = set(), set()
        for seed in range(40):
            book, _ = history(seed)
            for number in range(len(book)):
                words |= {book.state(number, known) for known in DAYS}
                whys |= {book.why(number, "run", "girls", 0)[0]}
        self.assertEqual(words, {"untold", "struck", "course", "wind", "good"})
        self.assertEqual(whys, {"struck", "course", "wind", "other", "held", "behind"})


if __name__ == "__main__":
    unittest.main()
