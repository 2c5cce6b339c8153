import unittest

from othersum.books import beside, book_of
from othersum.errors import NoMark
from othersum.parts import parts_by, table_by, whole_of, within
from samples import (GREAT, NO_NUMBERS, assert_book, assert_counts, assert_own, full_book, selections, some_books,
                     sums)

BOOK = book_of(2, (2, 3), [(0, (0, 1), 4, 1), (1, (0, 1), 6, 5), (0, (1, 2), 3, 3), (1, (0, 2), 2, 2)])
EMPTY = book_of(3, (2, 3), ())
BOOKS = some_books(11) + [BOOK, EMPTY, full_book(2, (3, 4, 6))]
NO_SOME = [[], [0], [0, 1], None, True, 0, 1, "", "0", "01", {}, {0: 1}, frozenset((0,)), range(1), iter((0,)), object(),
           (2,), (-1,), (0, 2), (2, 0), (0, 0), (1, 1), (0, 1, 0), (1, 0, 1), (GREAT,), (-GREAT,)]


def due_parts(book, some):
    values = sorted({tuple(kinds[mark] for mark in some) for kinds, counts in book[2]})
    told = []
    for value in values:
        inside = [counts for kinds, counts in book[2] if tuple(kinds[mark] for mark in some) == value]
        told.append((value, tuple(sums(counts[house] for counts in inside) for house in range(book[0]))))
    return told


class PartsBy(unittest.TestCase):
    def test_plain(self):
        self.assertEqual(parts_by(BOOK, ()), [((), ((7, 4), (8, 7)))])
        self.assertEqual(parts_by(BOOK, (0,)), [((0,), ((4, 1), (8, 7))), ((1,), ((3, 3), (0, 0)))])
        self.assertEqual(parts_by(BOOK, (1,)), [((1,), ((4, 1), (6, 5))), ((2,), ((3, 3), (2, 2)))])

    def test_values_stand_in_the_order_told(self):
        self.assertEqual(parts_by(BOOK, (0, 1)), list(BOOK[2]))
        self.assertEqual([values for values, counts in parts_by(BOOK, (1, 0))], [(1, 0), (2, 0), (2, 1)])
        self.assertEqual(parts_by(BOOK, (1, 0))[1], ((2, 0), ((0, 0), (2, 2))))

    def test_every_choice_against_the_words(self):
        for book in BOOKS:
            for some in selections(len(book[1])):
                told = parts_by(book, some)
                self.assertIs(type(told), list)
                self.assertEqual(told, due_parts(book, some))
                for part in told:
                    self.assertIs(type(part), tuple)
                    self.assertIs(type(part[0]), tuple)
                    assert_counts(self, part[1], book[0])

    def test_a_book_without_cells(self):
        for some in selections(2):
            self.assertEqual(parts_by(EMPTY, some), [])
            self.assertEqual(table_by(EMPTY, some), [])

    def test_no_marks_are_refused_of_whatever_it_is(self):
        wrong = NO_SOME + [(thing,) for thing in NO_NUMBERS] + [(0, thing) for thing in NO_NUMBERS]
        for book in (BOOK, EMPTY):
            for some in wrong:
                for call in (parts_by, table_by):
                    with self.assertRaises(NoMark):
                        call(book, some)

    def test_a_book_without_marks(self):
        book = book_of(2, (), [(0, (), 4, 1)])
        self.assertEqual(parts_by(book, ()), [((), ((4, 1), (0, 0)))])
        for some in ((0,), (-1,), [], (True,), (None,)):
            with self.assertRaises(NoMark):
                parts_by(book, some)

    def test_what_is_told_is_the_askers_own(self):
        for call in (parts_by, table_by):
            for some in ((), (0,), (1, 0)):
                assert_own(self, call, BOOK, some)


class WholeOf(unittest.TestCase):
    def test_plain(self):
        self.assertEqual(whole_of(BOOK), ((7, 4), (8, 7)))

    def test_a_book_without_cells(self):
        self.assertEqual(whole_of(EMPTY), ((0, 0), (0, 0), (0, 0)))

    def test_by_whatever_marks_the_parts_come_to_the_whole(self):
        for book in BOOKS:
            whole = whole_of(book)
            assert_counts(self, whole, book[0])
            for some in selections(len(book[1])):
                table = table_by(book, some)
                self.assertEqual(whole, tuple(sums(part[house] for part in table) for house in range(book[0])))

    def test_two_books_put_together(self):
        for book in BOOKS:
            due = tuple((2 * tried, 2 * well) for tried, well in whole_of(book))
            self.assertEqual(whole_of(beside(book, book)), due)


class Within(unittest.TestCase):
    def test_plain(self):
        self.assertEqual(within(BOOK, 0, 0), (2, (3,), (((1,), ((4, 1), (6, 5))), ((2,), ((0, 0), (2, 2))))))
        self.assertEqual(within(BOOK, 0, 1), (2, (3,), (((2,), ((3, 3), (0, 0))),)))
        self.assertEqual(within(BOOK, 1, 2), (2, (2,), (((0,), ((0, 0), (2, 2))), ((1,), ((3, 3), (0, 0))))))
        self.assertEqual(within(BOOK, 1, 0), (2, (2,), ()))

    def test_a_book_without_cells(self):
        self.assertEqual(within(EMPTY, 1, 2), (3, (2,), ()))

    def test_every_mark_and_kind(self):
        for book in BOOKS:
            for mark, kinds in enumerate(book[1]):
                for kind in range(kinds):
                    told = within(book, mark, kind)
                    assert_book(self, told)
                    self.assertEqual(told[:2], (book[0], book[1][:mark] + book[1][mark + 1:]))
                    due = [(key[:mark] + key[mark + 1:], counts) for key, counts in book[2] if key[mark] == kind]
                    self.assertEqual(list(told[2]), due)

    def test_the_kinds_of_a_mark_come_to_its_parts(self):
        for book in BOOKS:
            for mark, kinds in enumerate(book[1]):
                wholes = [((kind,), whole_of(within(book, mark, kind))) for kind in range(kinds)]
                due = [part for part in wholes if any(count[0] for count in part[1])]
                self.assertEqual(parts_by(book, (mark,)), due)

    def test_a_mark_or_kind_that_is_not_there(self):
        for book in (BOOK, EMPTY):
            for mark in NO_NUMBERS + [2, -1, -2, 5, GREAT, -GREAT]:
                with self.assertRaises(NoMark):
                    within(book, mark, 0)
            for kind in NO_NUMBERS + [2, -1, -2, 5, GREAT, -GREAT]:
                with self.assertRaises(NoMark):
                    within(book, 0, kind)
            with self.assertRaises(NoMark):
                within(book, 1, 3)
            with self.assertRaises(NoMark):
                within(book, None, None)
        with self.assertRaises(NoMark):
            within(book_of(2, (), ()), 0, 0)


class TableBy(unittest.TestCase):
    def test_plain(self):
        self.assertEqual(table_by(BOOK, ()), [((7, 4), (8, 7))])
        self.assertEqual(table_by(BOOK, (1,)), [((4, 1), (6, 5)), ((3, 3), (2, 2))])

    def test_the_counts_of_the_parts(self):
        for book in BOOKS:
            for some in selections(len(book[1])):
                self.assertEqual(table_by(book, some), [counts for values, counts in parts_by(book, some)])


if __name__ == "__main__":
    unittest.main()
