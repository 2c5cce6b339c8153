import random
import unittest
from itertools import permutations, product

from othersum.books import book_of
from othersum.counts import said
from othersum.errors import NoHouse, NoTable
from othersum.parts import table_by, whole_of
from othersum.turnings import grouped, says, sums_of, turning
from samples import (GREAT, NO_NUMBERS, TURNED, assert_no_pair, assert_own, assert_table, selections, share, some_books,
                     some_tables, sums)

TABLES = some_tables(21, 120) + some_tables(22, 120, houses=2, most=3)


def due_said(one, other):
    first, second = share(one), share(other)
    if first is None or second is None:
        return None
    return (first > second) - (first < second)


def due_turning(table, a, b):
    told = [due_said(part[a], part[b]) for part in table]
    whole = due_said(sums(part[a] for part in table), sums(part[b] for part in table))
    for number in (1, -1):
        if all(one == number for one in told):
            return ("kept", number) if whole == number else ("turned", number, whole)
    for part, one in enumerate(told):
        if one in (0, None):
            return ("open", part)
    return ("apart", told.index(1), told.index(-1))


class SumsOf(unittest.TestCase):
    def test_plain(self):
        self.assertEqual(sums_of(TURNED), ((110, 39), (110, 82)))
        self.assertEqual(sums_of([((4, 1), (0, 0), (3, 3))]), ((4, 1), (0, 0), (3, 3)))

    def test_each_house_over_all_parts(self):
        for table in TABLES:
            due = tuple(sums(part[house] for part in table) for house in range(len(table[0])))
            self.assertEqual(sums_of(table), due)
            self.assertIs(type(sums_of(table)), tuple)

    def test_the_whole_of_a_book_by_whatever_marks(self):
        for book in some_books(23):
            for some in selections(len(book[1])):
                table = table_by(book, some)
                if table:
                    self.assertEqual(sums_of(table), whole_of(book))

    def test_what_is_told_is_the_askers_own(self):
        assert_own(self, sums_of, [((10, 9), (100, 80)), ((100, 30), (10, 2))])


class Says(unittest.TestCase):
    def test_plain(self):
        table = [((4, 3), (4, 1)), ((4, 1), (4, 3)), ((4, 1), (8, 2)), ((0, 0), (8, 2)), ((4, 1), (0, 0))]
        self.assertEqual(says(table, 0, 1), [1, -1, 0, None, None])
        self.assertEqual(says(table, 1, 0), [-1, 1, 0, None, None])

    def test_each_part_as_said(self):
        for table in TABLES:
            for a, b in permutations(range(len(table[0])), 2):
                told = says(table, a, b)
                self.assertIs(type(told), list)
                self.assertEqual(told, [due_said(part[a], part[b]) for part in table])
                self.assertEqual(told, [said(part[a], part[b]) for part in table])

    def test_what_is_told_is_the_askers_own(self):
        assert_own(self, says, [((10, 9), (100, 80)), ((100, 30), (10, 2))], 0, 1)

    def test_no_houses(self):
        for table in (TURNED, [((0, 0), (0, 0), (0, 0))]):
            assert_no_pair(self, NoHouse, says, table, len(table[0]))


class Turning(unittest.TestCase):
    def test_turned(self):
        self.assertEqual(turning(TURNED, 0, 1), ("turned", 1, -1))
        self.assertEqual(turning(TURNED, 1, 0), ("turned", -1, 1))

    def test_turned_where_the_whole_says_nought(self):
        table = [((1, 1), (3, 2)), ((3, 1), (1, 0))]
        self.assertEqual(says(table, 0, 1), [1, 1])
        self.assertEqual(turning(table, 0, 1), ("turned", 1, 0))
        self.assertEqual(turning(table, 1, 0), ("turned", -1, 0))

    def test_kept(self):
        table = [((4, 3), (4, 1)), ((8, 7), (4, 2))]
        self.assertEqual(turning(table, 0, 1), ("kept", 1))
        self.assertEqual(turning(table, 1, 0), ("kept", -1))
        self.assertEqual(turning(table[:1], 0, 1), ("kept", 1))

    def test_open_names_the_first_part(self):
        up, down, level, untried = ((4, 3), (4, 1)), ((4, 1), (4, 3)), ((4, 2), (2, 1)), ((4, 1), (0, 0))
        self.assertEqual(turning([level], 0, 1), ("open", 0))
        self.assertEqual(turning([up, up, untried, level], 0, 1), ("open", 2))
        self.assertEqual(turning([up, down, down, level, untried], 1, 0), ("open", 3))
        self.assertEqual(turning([untried, ((0, 0), (3, 3))], 0, 1), ("open", 0))
        self.assertEqual(turning([((0, 0), (0, 0))], 0, 1), ("open", 0))

    def test_apart_names_the_first_parts(self):
        up, down = ((4, 3), (4, 1)), ((4, 1), (4, 3))
        self.assertEqual(turning([up, down], 0, 1), ("apart", 0, 1))
        self.assertEqual(turning([up, down], 1, 0), ("apart", 1, 0))
        self.assertEqual(turning([down, down, down, up, up], 0, 1), ("apart", 3, 0))

    def test_other_houses_are_left_alone(self):
        table = [((0, 0), (10, 9), (5, 5), (100, 80)), ((0, 0), (100, 30), (1, 0), (10, 2))]
        self.assertEqual(turning(table, 1, 3), ("turned", 1, -1))
        self.assertEqual(turning(table, 0, 3), ("open", 0))

    def test_thirty_figures(self):
        table = [((GREAT, GREAT - 1), (GREAT - 1, GREAT - 2)), ((GREAT, 1), (GREAT, 0))]
        self.assertEqual(turning(table, 0, 1), ("kept", 1))
        table = [((GREAT, GREAT - 1), (GREAT - 1, GREAT - 2)), ((GREAT, 1), (1, 0))]
        self.assertEqual(turning(table, 0, 1), ("turned", 1, -1))
        self.assertEqual(turning([((GREAT, GREAT // 3), (3, 1))], 0, 1), ("open", 0))

    def test_every_small_table(self):
        counts = [(tried, well) for tried in range(4) for well in range(tried + 1)]
        seen = {}
        for numbers in product(counts, repeat=4):
            table = [(numbers[0], numbers[1]), (numbers[2], numbers[3])]
            told = turning(table, 0, 1)
            self.assertEqual(told, due_turning(table, 0, 1))
            seen[told] = True
        for due in (("turned", 1, 0), ("turned", -1, 0), ("kept", 1), ("open", 1), ("apart", 1, 0)):
            self.assertIn(due, seen)

    def test_many_tables(self):
        for table in TABLES:
            for a, b in permutations(range(len(table[0])), 2):
                told = turning(table, a, b)
                self.assertIs(type(told), tuple)
                self.assertEqual(told, due_turning(table, a, b))

    def test_no_houses(self):
        for table in (TURNED, [((0, 0), (0, 0), (0, 0))]):
            assert_no_pair(self, NoHouse, turning, table, len(table[0]))

    def test_of_a_books_table(self):
        book = book_of(2, (2,), [(0, (0,), 10, 9), (1, (0,), 100, 80), (0, (1,), 100, 30), (1, (1,), 10, 2)])
        self.assertEqual(turning(table_by(book, (0,)), 0, 1), ("turned", 1, -1))
        self.assertEqual(turning(table_by(book, ()), 0, 1), ("kept", -1))


class Grouped(unittest.TestCase):
    TABLE = [((4, 1), (5, 2)), ((1, 1), (0, 0)), ((7, 0), (2, 2))]

    def test_plain(self):
        self.assertEqual(grouped(self.TABLE, [[0], [1], [2]]), self.TABLE)
        self.assertEqual(grouped(self.TABLE, [[0, 1, 2]]), [((12, 2), (7, 4))])
        self.assertEqual(grouped(self.TABLE, [[2, 0], [1]]), [((11, 1), (7, 4)), ((1, 1), (0, 0))])

    def test_groups_in_any_order(self):
        self.assertEqual(grouped(self.TABLE, [[1], [0, 2]]), [((1, 1), (0, 0)), ((11, 1), (7, 4))])
        self.assertEqual(grouped(self.TABLE, [[2], [1], [0]]), self.TABLE[::-1])

    def test_many_tables(self):
        chance = random.Random(24)
        for table in TABLES:
            order = list(range(len(table)))
            chance.shuffle(order)
            groups = []
            while order:
                size = chance.randint(1, len(order))
                groups.append(order[:size])
                order = order[size:]
            told = grouped(table, groups)
            assert_table(self, told, len(table[0]))
            self.assertEqual(sums_of(told), sums_of(table))
            for group, part in zip(groups, told, strict=True):
                due = tuple(sums(table[number][house] for number in group) for house in range(len(table[0])))
                self.assertEqual(part, due)

    def test_no_table(self):
        for groups in ([], [[]], [[0, 1]], [[0], [2]], [[0, 1, 2], []], [[], [0, 1, 2]], [[0, 1, 2, 0]], [[0, 1], [1, 2]],
                       [[0, 0, 1], [2]], [[0, 1, 2, 3]], [[0, 1, 2], [3]], [[0, 1, 3]], [[0], [3], [1]], [[-1, 0, 1]], [[0, 1, 2, -1]], [[0, 1, GREAT]],
                       [[0, 1, -GREAT]], [[0, 1, 2], [0]]):
            with self.assertRaises(NoTable, msg=groups):
                grouped(self.TABLE, groups)
        for thing in NO_NUMBERS:
            with self.assertRaises(NoTable):
                grouped([((1, 1), (1, 0)), ((2, 1), (1, 1))], [[0], [thing]])

    def test_what_is_told_is_the_askers_own(self):
        assert_own(self, grouped, list(self.TABLE), [[2, 0], [1]])


if __name__ == "__main__":
    unittest.main()
