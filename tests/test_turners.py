import unittest
from itertools import combinations, permutations

from othersum.books import book_of
from othersum.errors import NoHouse
from othersum.hidden import hidden
from othersum.parts import table_by, whole_of
from othersum.turners import ranks, turned_by
from othersum.turnings import turning
from samples import GREAT, assert_no_pair, assert_own, full_book, share, some_books

BOOK = book_of(2, (2,), [(0, (0,), 10, 9), (1, (0,), 100, 80), (0, (1,), 100, 30), (1, (1,), 10, 2)])


def five_marks():
    """A book that marks 0, 2 and 4 turn, of which each is one of the two kinds of the cells."""
    rows = []
    for house, kind, tried, well in ((0, 0, 10, 9), (1, 0, 100, 80), (0, 1, 100, 30), (1, 1, 10, 2)):
        rows.append((house, (kind, 0, kind, 0, kind), tried, well))
    return book_of(2, (2, 1, 3, 2, 2), rows)


class TurnedBy(unittest.TestCase):
    def test_plain(self):
        self.assertEqual(turned_by(BOOK, 0, 1), [(0,)])
        self.assertEqual(turned_by(BOOK, 1, 0), [(0,)])

    def test_shorter_ones_first_as_long_ones_rising(self):
        told = turned_by(five_marks(), 0, 1)
        due = [some for length in range(1, 6) for some in combinations(range(5), length) if {0, 2, 4} & set(some)]
        self.assertEqual(told, due)
        self.assertEqual(told[:6], [(0,), (2,), (4,), (0, 1), (0, 2), (0, 3)])
        self.assertEqual(told[-1], (0, 1, 2, 3, 4))

    def test_none(self):
        self.assertEqual(turned_by(book_of(2, (), [(0, (), 4, 3), (1, (), 4, 1)]), 0, 1), [])
        self.assertEqual(turned_by(book_of(2, (2,), [(0, (0,), 4, 3), (1, (0,), 4, 1)]), 0, 1), [])

    def test_a_book_without_cells(self):
        self.assertEqual(turned_by(book_of(2, (2, 3), ()), 0, 1), [])
        self.assertEqual(turned_by(book_of(6, (), ()), 5, 0), [])

    def test_many_books(self):
        found = 0
        for book in some_books(121, 60, most=4) + [BOOK, five_marks(), full_book(2, (2, 3, 2))]:
            for a, b in permutations(range(book[0]), 2):
                due = []
                for length in range(1, len(book[1]) + 1):
                    for some in combinations(range(len(book[1])), length):
                        table = table_by(book, some)
                        if table and turning(table, a, b)[0] == "turned":
                            due.append(some)
                told = turned_by(book, a, b)
                self.assertIs(type(told), list)
                self.assertEqual(told, due)
                found += len(told)
        self.assertGreater(found, 5)

    def test_a_hidden_mark_is_told(self):
        for many in range(2, 7):
            self.assertIn((1,), turned_by(hidden(BOOK, 1, 0, many), 1, 0))

    def test_no_houses(self):
        assert_no_pair(self, NoHouse, turned_by, BOOK, 2)
        assert_no_pair(self, NoHouse, turned_by, book_of(3, (2,), ()), 3)

    def test_what_is_told_is_the_askers_own(self):
        assert_own(self, turned_by, five_marks(), 0, 1)


class Ranks(unittest.TestCase):
    def test_plain(self):
        self.assertEqual(ranks(((4, 1), (4, 3))), [[1], [0]])
        self.assertEqual(ranks(((4, 3), (4, 1), (4, 2))), [[0], [2], [1]])

    def test_houses_of_one_share_together(self):
        self.assertEqual(ranks(((4, 2), (4, 3), (2, 1), (8, 4))), [[1], [0, 2, 3]])
        self.assertEqual(ranks(((1, 1), (GREAT, GREAT))), [[0, 1]])
        self.assertEqual(ranks(((1, 0), (GREAT, 0), (1, 1))), [[2], [0, 1]])

    def test_houses_not_tried_are_left_out(self):
        self.assertEqual(ranks(((0, 0), (4, 3), (0, 0), (4, 4))), [[3], [1]])
        self.assertEqual(ranks(((0, 0), (4, 0))), [[1]])
        self.assertEqual(ranks(((0, 0),) * 6), [])

    def test_many(self):
        for book in some_books(122, 60, most=4):
            counts = whole_of(book)
            shares = sorted({share(count) for count in counts if count[0]}, reverse=True)
            due = [[house for house, count in enumerate(counts) if share(count) == one] for one in shares]
            self.assertEqual(ranks(counts), due)

    def test_thirty_figures(self):
        counts = ((GREAT, GREAT - 1), (GREAT - 1, GREAT - 2), (GREAT - 2, GREAT - 3), (3, 1), (GREAT, GREAT // 3))
        self.assertEqual(ranks(counts), [[0], [1], [2], [3, 4]])

    def test_what_is_told_is_the_askers_own(self):
        assert_own(self, ranks, ((4, 2), (4, 3), (2, 1)))


if __name__ == "__main__":
    unittest.main()
