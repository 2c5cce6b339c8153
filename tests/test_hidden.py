import unittest
from itertools import permutations

from othersum.books import beside, book_of
from othersum.errors import NoHouse, NoTable, TooGreat
from othersum.hidden import hidden
from othersum.partings import parted
from othersum.parts import parts_by, table_by, whole_of
from othersum.turnings import says, turning
from samples import GREAT, assert_book, assert_no_pair, assert_own, full_book, some_books

BOOK = book_of(3, (2,), [(0, (0,), 10, 9), (1, (0,), 100, 80), (0, (1,), 100, 30), (1, (1,), 10, 2), (2, (0,), 5, 5),
                         (2, (1,), 6, 1)])


class Hidden(unittest.TestCase):
    def look_at(self, book, a, b, many):
        """Holds what is told against each word of the promise."""
        told = hidden(book, a, b, many)
        whole = whole_of(book)
        if parted(whole[a], whole[b], many) is None:
            self.assertIsNone(told)
            return None
        assert_book(self, told)
        self.assertEqual(told[0], book[0])
        self.assertEqual(told[1], book[1] + (many,))
        old = tuple(range(len(book[1])))
        self.assertEqual(tuple(parts_by(told, old)), book[2])
        new = (len(book[1]),)
        table = table_by(told, new)
        self.assertEqual(len(table), many)
        self.assertEqual(says(table, a, b), [-1] * many)
        for values, counts in parts_by(told, new):
            for house, count in enumerate(counts):
                if house not in (a, b) and values != (0,):
                    self.assertEqual(count, (0, 0))
        self.assertEqual(whole_of(told), whole)
        return told

    def test_plain(self):
        for many in range(2, 7):
            told = self.look_at(BOOK, 1, 0, many)
            self.assertEqual(turning(table_by(told, (1,)), 1, 0), ("turned", -1, 1))
            self.assertIsNotNone(self.look_at(BOOK, 0, 1, many))

    def test_none(self):
        book = book_of(2, (2,), [(0, (0,), 3, 2), (0, (1,), 4, 3), (1, (0,), 5, 2)])
        self.assertIsNotNone(self.look_at(book, 0, 1, 2))
        self.assertIsNone(hidden(book, 0, 1, 3))
        self.assertIsNone(hidden(book_of(2, (), ()), 0, 1, 2))
        self.assertIsNone(hidden(book_of(2, (), [(0, (), 9, 0)]), 0, 1, 2))

    def test_many_books(self):
        told = 0
        for book in some_books(91, 40) + some_books(92, 20, most=10 ** 12):
            for a, b in permutations(range(book[0]), 2):
                for many in (2, 3, 6):
                    told += self.look_at(book, a, b, many) is not None
        self.assertGreater(told, 100)

    def test_small_books_in_which_wells_are_rare(self):
        seen = {}
        for wells in range(8):
            for ills in range(8):
                rows = [(0, (0,), 3 + ills // 2, 3), (0, (1,), 2 + ills - ills // 2, 2), (1, (0,), 4 + wells // 3, wells // 3),
                        (1, (1,), wells - wells // 3, wells - wells // 3)]
                for many in range(2, 7):
                    told = self.look_at(book_of(2, (2,), rows), 0, 1, many)
                    self.assertEqual(told is not None, wells >= many and ills >= many)
                    seen[told is not None] = True
        self.assertEqual(len(seen), 2)

    def test_a_mark_hidden_behind_a_hidden_one(self):
        book = book_of(2, (), [(0, (), 100, 90), (1, (), 100, 10)])
        for step in range(5):
            book = self.look_at(book, step % 2, 1 - step % 2, 2 + step)
        self.assertEqual(len(book[1]), 5)
        with self.assertRaises(TooGreat):
            hidden(book, 0, 1, 2)

    def test_great_counts_and_many_cells(self):
        book = full_book(3, (6, 6, 3))
        self.assertGreater(len(book[2]), 60)
        self.assertIsNotNone(self.look_at(book, 0, 1, 6))
        for step in range(45):
            book = beside(book, book)
        self.assertGreater(whole_of(book)[0][0], 10 ** 12)
        self.assertIsNotNone(self.look_at(book, 0, 1, 6))
        self.assertIsNotNone(self.look_at(book, 2, 1, 2))

    def test_refusals_in_their_order(self):
        great = book_of(2, (1, 1, 1, 1, 1), ())
        for many in (2, 1, 7, 0):
            for book in (BOOK, great):
                assert_no_pair(self, NoHouse, lambda thing, a, b: hidden(thing, a, b, many), book, book[0])
        for many in (1, 7, 0, -1, 8, GREAT, -GREAT, True, False):
            for book in (BOOK, great, book_of(2, (), ())):
                with self.assertRaises(NoTable):
                    hidden(book, 0, 1, many)
        for book in (great, book_of(2, (1, 1, 1, 1, 1), [(0, (0,) * 5, 9, 1), (1, (0,) * 5, 9, 8)])):
            for many in range(2, 7):
                with self.assertRaises(TooGreat):
                    hidden(book, 0, 1, many)

    def test_what_is_handed_in_stays(self):
        assert_own(self, hidden, BOOK, 0, 1, 3)


if __name__ == "__main__":
    unittest.main()
