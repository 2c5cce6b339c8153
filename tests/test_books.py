import copy
import random
import unittest
from fractions import Fraction

from othersum.books import beside, book_of
from othersum.errors import NoBook
from samples import GREAT, assert_book, full_book, some_books, some_rows, sums

ROWS = [(0, (0, 1), 4, 1), (1, (0, 1), 6, 5), (0, (1, 2), 3, 3)]
BOOK = (2, (2, 3), (((0, 1), ((4, 1), (6, 5))), ((1, 2), ((3, 3), (0, 0)))))
ODD = [None, True, False, "", "2", "ab", 1.0, 2.5, 1j, b"2", {}, {0: 1}, object(), int, len, Fraction(2), range(2),
       frozenset((1, 2)), float("nan"), iter((1, 2))]


class BookOf(unittest.TestCase):
    def test_plain(self):
        self.assertEqual(book_of(2, [2, 3], ROWS), BOOK)

    def test_lists_and_tuples_are_told_as_tuples(self):
        for marks in ([2, 3], (2, 3)):
            for rows in (ROWS, tuple(ROWS)):
                told = book_of(2, marks, rows)
                assert_book(self, told)
                self.assertEqual(told, BOOK)

    def test_the_same_house_and_kinds_are_put_together(self):
        rows = [(1, (0,), 4, 1), (0, (0,), 1, 1), (1, (0,), 5, 5), (1, (1,), 2, 0), (1, (0,), 0, 0)]
        self.assertEqual(book_of(3, (2,), rows),
                         (3, (2,), (((0,), ((1, 1), (9, 6), (0, 0))), ((1,), ((0, 0), (2, 0), (0, 0))))))

    def test_cells_rise_by_kinds_in_whatever_order_rows_come(self):
        rows = [(0, (kind, other), 1, 0) for kind in range(3) for other in range(3)]
        due = book_of(2, (3, 3), rows)
        self.assertEqual([cell[0] for cell in due[2]], [row[1] for row in rows])
        for seed in range(9):
            random.Random(seed).shuffle(rows)
            self.assertEqual(book_of(2, (3, 3), rows), due)

    def test_what_no_house_was_tried_at_is_no_cell(self):
        self.assertEqual(book_of(2, (2,), [(0, (0,), 0, 0)]), (2, (2,), ()))
        self.assertEqual(book_of(2, (2,), [(0, (0,), 0, 0), (1, (1,), 1, 0)]),
                         (2, (2,), (((1,), ((0, 0), (1, 0))),)))

    def test_no_marks(self):
        self.assertEqual(book_of(2, [], [(0, (), 4, 1), (1, (), 2, 2), (0, (), 1, 1)]),
                         (2, (), (((), ((5, 2), (2, 2))),)))

    def test_no_rows(self):
        self.assertEqual(book_of(6, [], []), (6, (), ()))
        self.assertEqual(book_of(6, (6, 1), ()), (6, (6, 1), ()))

    def test_the_edges_that_are_still_right(self):
        for many in range(2, 7):
            self.assertEqual(book_of(many, (1, 6), [(many - 1, (0, 5), 1, 1)])[0], many)
        marks = (6, 6, 6, 6, 6)
        self.assertEqual(book_of(2, marks, [(0, (5, 5, 5, 5, 5), 1, 1)])[1], marks)
        told = book_of(2, (), [(0, (), 10 ** 12, 10 ** 12), (1, (), 10 ** 12, 0)])
        self.assertEqual(told[2], (((), ((10 ** 12, 10 ** 12), (10 ** 12, 0))),))

    def test_sixty_rows(self):
        told = book_of(2, (), [(0, (), 10 ** 12, 7)] * 60)
        self.assertEqual(told[2], (((), ((60 * 10 ** 12, 420), (0, 0))),))

    def test_many_against_the_words(self):
        chance = random.Random(1)
        for trial in range(60):
            many = chance.randint(2, 6)
            marks = tuple(chance.randint(1, 4) for mark in range(chance.randint(0, 5)))
            rows = some_rows(chance, many, marks, chance.randint(0, 60))
            told = book_of(many, marks, rows)
            assert_book(self, told)
            self.assertEqual(told[:2], (many, marks))
            cells = dict(told[2])
            for kinds in {row[1] for row in rows}:
                due = tuple(sums(row[2:] for row in rows if row[:2] == (house, kinds)) for house in range(many))
                if any(count[0] for count in due):
                    self.assertEqual(cells.pop(kinds), due)
            self.assertEqual(cells, {})

    def test_what_is_handed_in_stays_and_is_taken_as_it_is_then(self):
        marks = [2, 3]
        rows = list(ROWS)
        told = book_of(2, marks, rows)
        self.assertEqual((marks, rows), ([2, 3], ROWS))
        kept = copy.deepcopy(told)
        marks[0] = 5
        marks.append(1)
        rows.clear()
        self.assertEqual(told, kept)
        self.assertEqual(told, BOOK)


class Refused(unittest.TestCase):
    def assert_refused(self, many, marks, rows):
        with self.assertRaises(NoBook):
            book_of(many, marks, rows)

    def test_how_many_houses(self):
        for many in ODD + [1, 7, 0, -1, -2, 8, GREAT, -GREAT, [2], (2,), [], ()]:
            self.assert_refused(many, (), ())

    def test_marks_that_are_no_list_or_tuple(self):
        for marks in ODD + [0, 2, 3]:
            self.assert_refused(2, marks, ())

    def test_six_marks(self):
        self.assert_refused(2, (2,) * 6, ())
        self.assert_refused(2, [1] * 6, ())
        self.assert_refused(2, [1] * 60, ())

    def test_what_stands_in_marks(self):
        for kinds in ODD + [0, 7, -1, 8, GREAT, [2], (2,), [], ()]:
            self.assert_refused(2, [kinds], ())
            self.assert_refused(2, (2, kinds), ())
            self.assert_refused(2, (kinds, 2), ())

    def test_rows_that_are_no_list_or_tuple(self):
        for rows in ODD + [0, 2, 3]:
            self.assert_refused(2, (), rows)

    def test_sixty_one_rows(self):
        self.assert_refused(2, (), [(0, (), 1, 1)] * 61)
        self.assert_refused(2, (), ((0, (), 0, 0),) * 61)

    def test_what_stands_in_rows(self):
        for row in ODD + [0, 1, [], (), [0, (), 1, 1], (0,), (0, ()), (0, (), 1), (0, (), 1, 1, 1), ((0, (), 1, 1),)]:
            self.assert_refused(2, (), [row])
            self.assert_refused(2, (), ((0, (), 1, 1), row))
            self.assert_refused(2, (), (row, (0, (), 1, 1)))

    def test_a_rows_house(self):
        for house in ODD + [2, -1, 3, GREAT, -GREAT, (0,), [0], (), []]:
            self.assert_refused(2, (2,), [(house, (0,), 1, 1)])

    def test_a_rows_kinds(self):
        for kinds in ODD + [0, 1, [0, 0], [], (), (0,), (0, 0, 0), (2, 0), (0, 3), (-1, 0), (0, -1), (GREAT, 0)]:
            self.assert_refused(2, (2, 3), [(0, kinds, 1, 1)])
        for kind in ODD + [2, -1, 6, GREAT, (0,), [0], (), []]:
            self.assert_refused(2, (2, 2), [(0, (kind, 0), 1, 1)])
            self.assert_refused(2, (2, 2), [(0, (0, kind), 1, 1)])
        for kinds in ([], (0,), [0], None):
            self.assert_refused(2, (), [(0, kinds, 1, 1)])

    def test_a_rows_count(self):
        for tried, well in ((1, 2), (0, 1), (3, -1), (-1, -1), (-1, 0), (-3, -4), (10 ** 12 + 1, 0),
                            (10 ** 12 + 1, 10 ** 12 + 1), (GREAT, 1), (10 ** 12, 10 ** 12 + 1)):
            self.assert_refused(2, (), [(0, (), tried, well)])
        for thing in ODD + [(1,), [1], (), []]:
            self.assert_refused(2, (), [(0, (), 1, thing)])
            self.assert_refused(2, (), [(0, (), thing, 0)])
            self.assert_refused(2, (), [(0, (), thing, thing)])

    def test_a_wrong_thing_behind_right_ones(self):
        for place in range(4):
            row = [0, (0,), 1, 1]
            row[place] = None
            self.assert_refused(2, (2,), [(0, (0,), 1, 1)] * 59 + [tuple(row)])


class Beside(unittest.TestCase):
    def test_counts_are_put_together_cell_by_cell(self):
        other = book_of(2, (2, 3), [(1, (1, 2), 7, 2), (0, (0, 0), 1, 1), (0, (0, 1), 10 ** 12, 0)])
        told = beside(BOOK, other)
        self.assertEqual(told, (2, (2, 3), (((0, 0), ((1, 1), (0, 0))), ((0, 1), ((10 ** 12 + 4, 1), (6, 5))),
                                            ((1, 2), ((3, 3), (7, 2))))))
        self.assertEqual(beside(other, BOOK), told)

    def test_rows_told_at_once_or_in_two_books(self):
        chance = random.Random(2)
        for trial in range(40):
            many = chance.randint(2, 6)
            marks = tuple(chance.randint(1, 3) for mark in range(chance.randint(0, 5)))
            rows = some_rows(chance, many, marks, 60)
            cut = chance.randint(0, 60)
            one = book_of(many, marks, rows[:cut])
            other = book_of(many, marks, rows[cut:])
            self.assertEqual(beside(one, other), book_of(many, marks, rows))
            self.assertEqual(beside(other, one), book_of(many, marks, rows))

    def test_with_a_book_without_cells(self):
        for book in some_books(3):
            empty = book_of(book[0], book[1], ())
            self.assertEqual(beside(book, empty), book)
            self.assertEqual(beside(empty, book), book)
            self.assertEqual(beside(empty, empty), empty)

    def test_more_than_sixty_cells(self):
        book = full_book(3, (6, 6, 3))
        assert_book(self, book)
        self.assertEqual(len(book[2]), 108)
        twice = beside(book, book)
        assert_book(self, twice)
        self.assertEqual([cell[0] for cell in twice[2]], [cell[0] for cell in book[2]])
        for one, two in zip(book[2], twice[2]):
            self.assertEqual(two[1], tuple((2 * tried, 2 * well) for tried, well in one[1]))

    def test_other_houses_or_marks_are_refused(self):
        empty = book_of(2, (2, 3), ())
        for other in (book_of(3, (2, 3), ()), book_of(2, (3, 2), ()), book_of(2, (2,), ()), book_of(2, (2, 3, 1), ()),
                      book_of(2, (), ()), book_of(6, (), ()), book_of(3, (2, 3), ROWS), book_of(2, (2, 4), ROWS)):
            for book in (BOOK, empty):
                with self.assertRaises(NoBook):
                    beside(book, other)
                with self.assertRaises(NoBook):
                    beside(other, book)


if __name__ == "__main__":
    unittest.main()
