import random
import unittest
from itertools import permutations, product

from othersum.books import book_of
from othersum.counts import said
from othersum.errors import NoHouse, NoMark
from othersum.hidden import hidden
from othersum.parts import parts_by, table_by, whole_of
from othersum.trees import knots, turned_knots
from othersum.turnings import says, turning
from samples import GREAT, NO_NUMBERS, assert_no_pair, assert_own, full_book, selections, some_books

BOOK = book_of(2, (2,), [(0, (0,), 10, 9), (1, (0,), 100, 80), (0, (1,), 100, 30), (1, (1,), 10, 2)])
# By mark 0 the kind 0 turns within itself by mark 1, kind 1 doesn't.
DEEP = book_of(2, (2, 2), [(0, (0, 0), 10, 9), (1, (0, 0), 100, 80), (0, (0, 1), 100, 30), (1, (0, 1), 10, 2),
                           (0, (1, 0), 4, 1), (1, (1, 0), 4, 2), (0, (1, 1), 4, 2), (1, (1, 1), 4, 3)])
EMPTY = book_of(2, (2, 3), ())
BOOKS = some_books(101, 40, most=3) + [BOOK, DEEP, EMPTY, full_book(2, (3, 3, 2))]


def due_turned(book, order, a, b):
    found = knots(book, order)
    told = []
    for values, counts in found:
        kids = [other for key, other in found if len(key) == len(values) + 1 and key[:len(values)] == values]
        numbers = {said(other[a], other[b]) for other in kids}
        if numbers in ({1}, {-1}) and {said(counts[a], counts[b])} != numbers:
            told.append((values, numbers.pop()))
    return told


def leaning_books():
    """Books of two marks in which each leaf says 1 of houses 0 and 1, tried in unlike weights."""
    chance = random.Random(102)
    told = []
    for number in range(60):
        rows = []
        for kinds in product(range(2), range(3)):
            base = chance.randint(1, 8)
            many, few = chance.sample([1, 100], 2)
            rows += [(0, kinds, many * 10, many * (base + 1)), (1, kinds, few * 10, few * base)]
        told.append(book_of(2, (2, 3), rows))
    return told


class Knots(unittest.TestCase):
    def test_plain(self):
        self.assertEqual(knots(BOOK, ()), [((), ((110, 39), (110, 82)))])
        self.assertEqual(knots(BOOK, (0,)), [((), ((110, 39), (110, 82))), ((0,), ((10, 9), (100, 80))),
                                             ((1,), ((100, 30), (10, 2)))])

    def test_by_any_order(self):
        for book in BOOKS:
            for order in selections(len(book[1])):
                told = knots(book, order)
                self.assertIs(type(told), list)
                due = []
                for length in range(len(order) + 1):
                    due += parts_by(book, order[:length])
                self.assertEqual(told, due)

    def test_the_order_tells(self):
        self.assertEqual([values for values, counts in knots(DEEP, (1,))], [(), (0,), (1,)])
        self.assertEqual(knots(DEEP, (1, 0))[1][1], ((14, 10), (104, 82)))
        self.assertEqual(knots(DEEP, (0, 1))[1][1], ((110, 39), (110, 82)))

    def test_a_book_without_cells(self):
        for order in selections(2):
            self.assertEqual(knots(EMPTY, order), [])

    def test_no_mark(self):
        wrong = [[], [0], None, True, 0, "", "0", {}, (2,), (-1,), (0, 2), (0, 0), (1, 0, 1), (GREAT,)]
        for book in (DEEP, EMPTY):
            for order in wrong + [(thing,) for thing in NO_NUMBERS] + [(0, thing) for thing in NO_NUMBERS]:
                with self.assertRaises(NoMark):
                    knots(book, order)
                with self.assertRaises(NoMark):
                    turned_knots(book, order, 0, 1)

    def test_what_is_told_is_the_askers_own(self):
        assert_own(self, knots, DEEP, (1, 0))


class TurnedKnots(unittest.TestCase):
    def test_towards_1_and_towards_minus_1(self):
        self.assertEqual(turned_knots(BOOK, (0,), 0, 1), [((), 1)])
        self.assertEqual(turned_knots(BOOK, (0,), 1, 0), [((), -1)])
        self.assertEqual(turned_knots(DEEP, (0, 1), 0, 1), [((0,), 1)])
        self.assertEqual(turned_knots(DEEP, (0, 1), 1, 0), [((0,), -1)])

    def test_leaves_are_never_turned(self):
        self.assertEqual(turned_knots(BOOK, (), 0, 1), [])
        self.assertEqual(turned_knots(DEEP, (0,), 0, 1), [])
        self.assertEqual(turned_knots(book_of(2, (), [(0, (), 1, 1)]), (), 0, 1), [])

    def test_a_knot_that_says_nought(self):
        book = book_of(2, (2,), [(0, (0,), 1, 1), (1, (0,), 3, 2), (0, (1,), 3, 1), (1, (1,), 1, 0)])
        self.assertEqual(turned_knots(book, (0,), 0, 1), [((), 1)])
        self.assertEqual(turned_knots(book, (0,), 1, 0), [((), -1)])

    def test_kids_that_say_nought_none_or_the_other(self):
        for rows in ([(0, (0,), 4, 3), (1, (0,), 4, 1), (0, (1,), 4, 1), (1, (1,), 40, 30)],
                     [(0, (0,), 4, 3), (1, (0,), 4, 1), (0, (1,), 4, 0), (1, (1,), 4, 0)],
                     [(0, (0,), 4, 3), (1, (0,), 4, 1), (1, (1,), 40, 40)],
                     [(0, (0,), 4, 3), (1, (1,), 4, 1)],
                     [(0, (0,), 4, 2), (1, (0,), 4, 2), (0, (1,), 8, 4), (1, (1,), 2, 1)]):
            book = book_of(2, (2,), rows)
            self.assertEqual(turned_knots(book, (0,), 0, 1), [])
            self.assertEqual(turned_knots(book, (0,), 1, 0), [])

    def test_several_in_the_order_of_the_knots(self):
        rows = []
        for kind in range(3):
            rows += [(0, (kind, 0), 10, 9), (1, (kind, 0), 100, 80), (0, (kind, 1), 100, 30), (1, (kind, 1), 10, 2)]
        book = book_of(2, (3, 2), rows)
        self.assertEqual(turned_knots(book, (0, 1), 0, 1), [((0,), 1), ((1,), 1), ((2,), 1)])
        self.assertEqual(turned_knots(book, (1, 0), 0, 1), [((), 1)])

    def test_many_books(self):
        seen = {}
        for book in BOOKS:
            for order in selections(len(book[1])):
                for a, b in permutations(range(book[0]), 2):
                    told = turned_knots(book, order, a, b)
                    self.assertIs(type(told), list)
                    self.assertEqual(told, due_turned(book, order, a, b))
                    for values, number in told:
                        seen[(len(values), number)] = True
        self.assertTrue(set(seen) >= {(0, 1), (0, -1), (1, 1), (1, -1)}, seen)

    def test_where_all_leaves_say_one_and_the_whole_another_there_is_one(self):
        looked = 0
        for book in BOOKS + leaning_books():
            for order in selections(len(book[1])):
                for a, b in permutations(range(book[0]), 2):
                    table = table_by(book, order)
                    if table and turning(table, a, b)[0] == "turned":
                        told = turned_knots(book, order, a, b)
                        self.assertIn(says(table, a, b)[0], [number for values, number in told])
                        looked += 1
        self.assertGreater(looked, 80)

    def test_a_hidden_mark_turns_the_whole(self):
        for many in range(2, 7):
            book = hidden(DEEP, 1, 0, many)
            self.assertEqual(said(whole_of(book)[1], whole_of(book)[0]), 1)
            self.assertEqual(turned_knots(book, (2,), 1, 0), [((), -1)])

    def test_refusals_in_their_order(self):
        for book in (DEEP, EMPTY):
            for order in ((), (0, 1), (0, 0), (7,), None, [0]):
                assert_no_pair(self, NoHouse, lambda thing, a, b: turned_knots(thing, order, a, b), book, 2)

    def test_a_book_without_cells(self):
        for order in selections(2):
            self.assertEqual(turned_knots(EMPTY, order, 0, 1), [])

    def test_what_is_told_is_the_askers_own(self):
        assert_own(self, turned_knots, DEEP, (0, 1), 0, 1)


if __name__ == "__main__":
    unittest.main()
