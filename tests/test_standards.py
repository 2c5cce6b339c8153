import random
import unittest
from fractions import Fraction
from itertools import permutations

from othersum.bounds import gap
from othersum.errors import NoHouse, NoWeights
from othersum.standards import moved, standard, two_ways
from othersum.turnings import says
from samples import (GREAT, TURNED, assert_no_house, assert_no_share, assert_own, assert_ratio, assert_refused_as_leads,
                     even_tables, fraction, share, some_tables)

TABLES = some_tables(81, 150) + some_tables(82, 20, most=GREAT)
GAPPED = [((0, 0), (4, 1)), ((6, 3), (0, 0)), ((2, 2), (0, 0)), ((4, 1), (4, 3))]
NO_STANDARDS = [[], [1], [1, 1, 1], [0, 0], [-1, 1], [1, -1], [2, -1], [GREAT, -1], [0], [0, 0, 0], [1, True], [1, False]]


def some_weights(chance, table):
    weights = [chance.choice([0, 0, 1, 2, 7]) for part in table]
    weights[chance.randrange(len(table))] += 1
    return weights


def due_share(table, house, weights):
    if any(weight > 0 and part[house][0] == 0 for weight, part in zip(weights, table)):
        return None
    pieces = [weight * share(part[house]) for weight, part in zip(weights, table) if weight > 0]
    return sum(pieces) / sum(weights)


class Standard(unittest.TestCase):
    def test_plain(self):
        self.assertEqual(standard(TURNED, [1, 1]), [(3, 5), (1, 2)])
        self.assertEqual(standard(TURNED, [0, 9]), [(3, 10), (1, 5)])
        self.assertEqual(standard(TURNED, [2, 1]), [(7, 10), (3, 5)])

    def test_none_where_a_house_was_not_tried(self):
        self.assertEqual(standard(GAPPED, [1, 0, 0, 1]), [None, (1, 2)])
        self.assertEqual(standard(GAPPED, [0, 1, 0, 1]), [(3, 8), None])
        self.assertEqual(standard(GAPPED, [1, 1, 1, 1]), [None, None])
        self.assertEqual(standard(GAPPED, [0, 0, 0, 5]), [(1, 4), (3, 4)])

    def test_many_tables(self):
        chance = random.Random(83)
        for table in TABLES:
            weights = some_weights(chance, table)
            told = standard(table, weights)
            self.assertIs(type(told), list)
            self.assertEqual(len(told), len(table[0]))
            for house, one in enumerate(told):
                due = due_share(table, house, weights)
                if due is None:
                    self.assertIsNone(one)
                else:
                    assert_ratio(self, one, due)

    def test_none_turns_what_all_parts_say(self):
        chance = random.Random(84)
        seen = 0
        for table in some_tables(85, 900, houses=2, most=4, untried=False):
            if set(says(table, 0, 1)) == {1}:
                first, second = standard(table, some_weights(chance, table))
                self.assertGreater(fraction(first), fraction(second))
                seen += 1
        self.assertGreater(seen, 20)

    def test_no_weights(self):
        for table in (TURNED, [((0, 0), (0, 0)), ((0, 0), (0, 0))]):
            for weights in NO_STANDARDS:
                with self.assertRaises(NoWeights, msg=weights):
                    standard(table, weights)

    def test_what_is_told_is_the_askers_own(self):
        assert_own(self, standard, list(GAPPED), [1, 0, 0, 1])


class Moved(unittest.TestCase):
    def test_plain(self):
        self.assertEqual(moved(TURNED, 0, [1, 1], [1, 0]), [(9, 20), (-3, 20)])
        self.assertEqual(moved(TURNED, 0, [1, 1], [7, 7]), [(0, 1), (0, 1)])

    def test_nought_where_both_weights_are_nought(self):
        self.assertEqual(moved(GAPPED, 0, [0, 1, 0, 1], [0, 1, 0, 0]), [(0, 1), (1, 4), (0, 1), (-1, 8)])

    def test_many_tables(self):
        chance = random.Random(86)
        looked = 0
        for table in TABLES:
            weights, others = some_weights(chance, table), some_weights(chance, table)
            for house in range(len(table[0])):
                start, end = due_share(table, house, weights), due_share(table, house, others)
                if start is None or end is None:
                    continue
                told = moved(table, house, weights, others)
                self.assertIs(type(told), list)
                for part, one in enumerate(told):
                    step = Fraction(others[part], sum(others)) - Fraction(weights[part], sum(weights))
                    assert_ratio(self, one, step * (share(table[part][house]) or 0))
                self.assertEqual(len(told), len(table))
                self.assertEqual(sum(map(fraction, told)), end - start)
                looked += 1
        self.assertGreater(looked, 100)

    def test_refusals_in_their_order(self):
        untried = [((1, 1), (0, 0)), ((0, 0), (0, 0))]
        for weights in NO_STANDARDS:
            assert_no_house(self, NoHouse, lambda table, house: moved(table, house, weights, weights), untried, 2)
            for first, second in ((weights, [1, 1]), ([1, 1], weights), (weights, weights)):
                for house in (0, 1):
                    with self.assertRaises(NoWeights, msg=weights):
                        moved(untried, house, first, second)
        assert_no_share(self, 0, 1, moved, untried, 1, [1, 1], [1, 1])
        assert_no_share(self, 1, 1, moved, untried, 1, [0, 1], [0, 1])
        assert_no_share(self, 1, 0, moved, untried, 0, [1, 0], [1, 1])
        assert_no_share(self, 1, 0, moved, untried, 0, [0, 1], [1, 0])
        assert_no_share(self, 0, 0, moved, GAPPED, 0, [0, 0, 0, 1], [1, 0, 0, 0])
        assert_no_share(self, 1, 1, moved, GAPPED, 1, [0, 0, 3, 1], [1, 2, 0, 0])
        self.assertEqual(moved(untried, 0, [1, 0], [2, 0]), [(0, 1), (0, 1)])

    def test_what_is_told_is_the_askers_own(self):
        assert_own(self, moved, list(TURNED), 0, [1, 1], [1, 0])


class TwoWays(unittest.TestCase):
    def test_plain(self):
        self.assertEqual(two_ways(TURNED, 0, 1), ([(1, 20), (1, 20)], [(-153, 220), (9, 44)]))

    def test_parts_in_which_neither_was_tried(self):
        table = [((0, 0), (0, 0)), ((10, 9), (100, 80)), ((100, 30), (10, 2))]
        self.assertEqual(two_ways(table, 0, 1), ([(0, 1), (1, 20), (1, 20)], [(0, 1), (-153, 220), (9, 44)]))

    def test_many_tables(self):
        for table in even_tables(87, 120) + even_tables(88, 10, most=GREAT):
            for a, b in permutations(range(len(table[0])), 2):
                told = two_ways(table, a, b)
                self.assertIs(type(told), tuple)
                ones, others = told
                self.assertEqual((type(ones), type(others)), (list, list))
                self.look_at(table, a, b, ones, others)
                self.assertEqual(sum(map(fraction, ones + others)), fraction(gap(table, a, b)[1]))

    def look_at(self, table, a, b, ones, others):
        first = sum(part[a][0] for part in table)
        second = sum(part[b][0] for part in table)
        for part, by_shares, by_weights in zip(table, ones, others, strict=True):
            weight, other = Fraction(part[a][0], first), Fraction(part[b][0], second)
            one, two = share(part[a]) or 0, share(part[b]) or 0
            assert_ratio(self, by_shares, (weight + other) / 2 * (one - two))
            assert_ratio(self, by_weights, (weight - other) * (one + two) / 2)

    def test_refusals(self):
        assert_refused_as_leads(self, two_ways)

    def test_what_is_told_is_the_askers_own(self):
        assert_own(self, two_ways, list(TURNED), 0, 1)


if __name__ == "__main__":
    unittest.main()
