import unittest
from fractions import Fraction

from othersum.errors import NoHouse, NoShare
from othersum.mixings import ends_of, mixing, weights_of
from samples import (GREAT, TURNED, assert_no_house, assert_own, assert_ratio, fraction, share, some_tables, sums)

TABLES = some_tables(31, 150) + some_tables(32, 50, most=10 ** 30 - 1)
GAPPED = [((0, 0), (4, 1)), ((6, 3), (0, 0)), ((2, 2), (0, 0)), ((4, 1), (4, 3))]
UNTRIED = [((4, 1), (0, 0), (3, 2)), ((1, 0), (0, 0), (5, 5))]


def tried_houses(table):
    return [house for house in range(len(table[0])) if any(part[house][0] for part in table)]


class Refusals(unittest.TestCase):
    def test_a_house_tried_in_no_part(self):
        for call in (weights_of, mixing, ends_of):
            with self.assertRaises(NoShare) as caught:
                call(UNTRIED, 1)
            self.assertIsNone(caught.exception.part)
            self.assertEqual(caught.exception.house, 1)
            with self.assertRaises(NoShare) as caught:
                call([((0, 0), (0, 0))], 0)
            self.assertEqual((caught.exception.part, caught.exception.house), (None, 0))

    def test_no_houses(self):
        for call in (weights_of, mixing, ends_of):
            assert_no_house(self, NoHouse, call, TURNED, 2)
            assert_no_house(self, NoHouse, call, UNTRIED, 3)

    def test_what_is_told_is_the_askers_own(self):
        for call in (weights_of, mixing, ends_of):
            assert_own(self, call, list(GAPPED), 0)


class WeightsOf(unittest.TestCase):
    def test_plain(self):
        self.assertEqual(weights_of(TURNED, 0), [(1, 11), (10, 11)])
        self.assertEqual(weights_of(TURNED, 1), [(10, 11), (1, 11)])

    def test_lowest_terms_and_noughts(self):
        self.assertEqual(weights_of(GAPPED, 0), [(0, 1), (1, 2), (1, 6), (1, 3)])
        self.assertEqual(weights_of(GAPPED, 1), [(1, 2), (0, 1), (0, 1), (1, 2)])
        self.assertEqual(weights_of([((4, 1), (0, 0))], 0), [(1, 1)])

    def test_many_tables(self):
        for table in TABLES:
            for house in tried_houses(table):
                told = weights_of(table, house)
                self.assertIs(type(told), list)
                whole = sum(part[house][0] for part in table)
                for weight, part in zip(told, table, strict=True):
                    assert_ratio(self, weight, Fraction(part[house][0], whole))
                self.assertEqual(sum(map(fraction, told)), 1)


class Mixing(unittest.TestCase):
    def test_plain(self):
        self.assertEqual(mixing(TURNED, 0), ((39, 110), [((1, 11), (9, 10)), ((10, 11), (3, 10))]))

    def test_parts_in_which_it_was_not_tried(self):
        self.assertEqual(mixing(GAPPED, 0), ((1, 2), [None, ((1, 2), (1, 2)), ((1, 6), (1, 1)), ((1, 3), (1, 4))]))
        self.assertEqual(mixing(GAPPED, 1), ((1, 2), [((1, 2), (1, 4)), None, None, ((1, 2), (3, 4))]))

    def test_many_tables(self):
        for table in TABLES:
            for house in tried_houses(table):
                told = mixing(table, house)
                self.assertIs(type(told), tuple)
                whole, rows = told
                self.assertIs(type(rows), list)
                assert_ratio(self, whole, share(sums(part[house] for part in table)))
                for row, part, weight in zip(rows, table, weights_of(table, house), strict=True):
                    if part[house][0] == 0:
                        self.assertIsNone(row)
                    else:
                        self.assertIs(type(row), tuple)
                        self.assertEqual(row[0], weight)
                        assert_ratio(self, row[1], share(part[house]))
                tried = [row for row in rows if row is not None]
                self.assertEqual(sum(fraction(row[0]) for row in tried), 1)
                self.assertEqual(sum(fraction(row[0]) * fraction(row[1]) for row in tried), fraction(whole))


class EndsOf(unittest.TestCase):
    def test_plain(self):
        self.assertEqual(ends_of(TURNED, 0), ((3, 10), 1, (9, 10), 0))
        self.assertEqual(ends_of(GAPPED, 0), ((1, 4), 3, (1, 1), 2))
        self.assertEqual(ends_of(GAPPED, 1), ((1, 4), 0, (3, 4), 3))

    def test_the_first_of_several(self):
        table = [((0, 0), (1, 1)), ((4, 2), (1, 1)), ((8, 2), (1, 1)), ((4, 1), (1, 1)), ((2, 1), (1, 1)), ((3, 1), (1, 1))]
        self.assertEqual(ends_of(table, 0), ((1, 4), 2, (1, 2), 1))
        self.assertEqual(ends_of(table, 1), ((1, 1), 0, (1, 1), 0))
        self.assertEqual(ends_of([((0, 0), (1, 1)), ((7, 0), (0, 0))], 0), ((0, 1), 1, (0, 1), 1))

    def test_thirty_figures(self):
        table = [((GREAT - 1, GREAT - 2), (1, 1)), ((GREAT, GREAT - 1), (1, 1)), ((GREAT - 2, GREAT - 3), (1, 1))]
        self.assertEqual(ends_of(table, 0), ((GREAT - 3, GREAT - 2), 2, (GREAT - 1, GREAT), 1))

    def test_many_tables(self):
        for table in TABLES:
            for house in tried_houses(table):
                told = ends_of(table, house)
                self.assertIs(type(told), tuple)
                shares = [share(part[house]) for part in table]
                known = [one for one in shares if one is not None]
                assert_ratio(self, told[0], min(known))
                assert_ratio(self, told[2], max(known))
                self.assertEqual((told[1], told[3]), (shares.index(min(known)), shares.index(max(known))))
                whole = share(sums(part[house] for part in table))
                self.assertTrue(min(known) <= whole <= max(known))


if __name__ == "__main__":
    unittest.main()
