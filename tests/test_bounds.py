import unittest
from fractions import Fraction
from itertools import permutations, product

from othersum.bounds import apart, gap, leads, uneven
from othersum.errors import NoHouse
from othersum.turnings import says, turning
from samples import (GREAT, TURNED, assert_no_house, assert_no_pair, assert_no_share, assert_own, assert_ratio,
                     assert_refused_as_leads, even_tables, fraction, share, some_tables, sums)

TABLES = even_tables(61, 120) + even_tables(62, 80, houses=2, most=3) + even_tables(63, 20, most=GREAT)


def weights(table, house):
    whole = sum(part[house][0] for part in table)
    return [Fraction(part[house][0], whole) for part in table]


def whole_share(table, house):
    return share(sums(part[house] for part in table))


def due_leads(table, a, b):
    return [None if part[a][0] == 0 else share(part[a]) - share(part[b]) for part in table]


def spread(table, house):
    shares = [share(part[house]) for part in table if part[house][0]]
    return max(shares) - min(shares)


class Uneven(unittest.TestCase):
    def test_plain(self):
        self.assertEqual(uneven(TURNED, 0, 1), ((9, 11), [1]))
        self.assertEqual(uneven(TURNED, 1, 0), ((9, 11), [0]))

    def test_like_weights(self):
        self.assertEqual(uneven([((2, 1), (4, 1)), ((3, 1), (6, 1))], 0, 1), ((0, 1), []))
        self.assertEqual(uneven([((2, 1), (4, 1))], 0, 1), ((0, 1), []))

    def test_wholly_unlike_weights(self):
        table = [((2, 1), (0, 0)), ((0, 0), (4, 1)), ((0, 0), (0, 0)), ((5, 1), (0, 0))]
        self.assertEqual(uneven(table, 0, 1), ((1, 1), [0, 3]))
        self.assertEqual(uneven(table, 1, 0), ((1, 1), [1]))

    def test_parts_in_which_just_one_was_tried(self):
        table = [((2, 1), (1, 1)), ((2, 1), (0, 0)), ((0, 0), (3, 1))]
        self.assertEqual(uneven(table, 0, 1), ((3, 4), [0, 1]))

    def test_many_tables(self):
        for table in TABLES + some_tables(64, 100, untried=False):
            for a, b in permutations(range(len(table[0])), 2):
                told = uneven(table, a, b)
                self.assertIs(type(told), tuple)
                ones, others = weights(table, a), weights(table, b)
                self.assertEqual(told[1], [part for part in range(len(table)) if ones[part] > others[part]])
                self.assertIs(type(told[1]), list)
                assert_ratio(self, told[0], sum(abs(one - other) for one, other in zip(ones, others)) / 2)
                self.assertTrue(0 <= fraction(told[0]) <= 1)
                self.assertEqual(told[0], uneven(table, b, a)[0])

    def test_refusals(self):
        assert_no_pair(self, NoHouse, uneven, TURNED, 2)
        table = [((4, 1), (0, 0), (0, 0)), ((0, 0), (0, 0), (0, 0))]
        for a, b, house in ((0, 1, 1), (1, 0, 1), (1, 2, 1), (2, 1, 2)):
            assert_no_share(self, None, house, uneven, table, a, b)

    def test_what_is_told_is_the_askers_own(self):
        assert_own(self, uneven, list(TURNED), 0, 1)


class Apart(unittest.TestCase):
    def test_plain(self):
        self.assertEqual(apart(TURNED, 0), (3, 5))
        self.assertEqual(apart([((4, 1), (1, 1)), ((0, 0), (1, 0)), ((8, 2), (1, 1))], 0), (0, 1))
        self.assertEqual(apart([((4, 1), (1, 1)), ((0, 0), (1, 0)), ((8, 2), (1, 1))], 1), (1, 1))

    def test_many_tables(self):
        for table in TABLES:
            for house in range(len(table[0])):
                assert_ratio(self, apart(table, house), spread(table, house))

    def test_refusals(self):
        assert_no_house(self, NoHouse, apart, TURNED, 2)
        assert_no_share(self, None, 1, apart, [((4, 1), (0, 0)), ((1, 1), (0, 0))], 1)


class Leads(unittest.TestCase):
    def test_plain(self):
        self.assertEqual(leads(TURNED, 0, 1), ((1, 10), 0, (1, 10), 0))
        self.assertEqual(leads([((4, 3), (4, 1)), ((2, 1), (2, 1)), ((4, 1), (2, 2))], 0, 1), ((-3, 4), 2, (1, 2), 0))

    def test_parts_in_which_neither_was_tried_are_left_out(self):
        table = [((0, 0), (0, 0)), ((4, 1), (4, 3)), ((0, 0), (0, 0)), ((4, 1), (4, 2))]
        self.assertEqual(leads(table, 0, 1), ((-1, 2), 1, (-1, 4), 3))
        self.assertEqual(leads(table, 1, 0), ((1, 4), 3, (1, 2), 1))

    def test_the_first_of_several(self):
        up, down = ((4, 3), (4, 1)), ((4, 1), (4, 3))
        self.assertEqual(leads([up, down, down, up], 0, 1), ((-1, 2), 1, (1, 2), 0))
        self.assertEqual(leads([down, down, up, up], 0, 1), ((-1, 2), 0, (1, 2), 2))

    def test_many_tables(self):
        for table in TABLES:
            for a, b in permutations(range(len(table[0])), 2):
                told = leads(table, a, b)
                self.assertIs(type(told), tuple)
                due = due_leads(table, a, b)
                known = [lead for lead in due if lead is not None]
                assert_ratio(self, told[0], min(known))
                assert_ratio(self, told[2], max(known))
                self.assertEqual((told[1], told[3]), (due.index(min(known)), due.index(max(known))))

    def test_refusals(self):
        assert_refused_as_leads(self, leads)


class Gap(unittest.TestCase):
    def look_at(self, table, a, b):
        told = gap(table, a, b)
        self.assertIs(type(told), tuple)
        known = [lead for lead in due_leads(table, a, b) if lead is not None]
        differences = [abs(one - other) for one, other in zip(weights(table, a), weights(table, b))]
        slack = sum(differences) / 2 * min(spread(table, a), spread(table, b))
        assert_ratio(self, told[0], min(known) - slack)
        assert_ratio(self, told[1], whole_share(table, a) - whole_share(table, b))
        assert_ratio(self, told[2], max(known) + slack)
        low, middle, high = map(fraction, told)
        self.assertTrue(low <= middle <= high)
        turned = turning(table, a, b)
        if turned[0] == "turned" and turned[1] == 1:
            self.assertLessEqual(low, 0)
        if turned[0] == "turned" and turned[1] == -1:
            self.assertGreaterEqual(high, 0)
        return turned[:2]

    def test_plain(self):
        self.assertEqual(gap(TURNED, 0, 1), ((-43, 110), (-43, 110), (13, 22)))
        self.assertEqual(gap(TURNED, 1, 0), ((-13, 22), (43, 110), (43, 110)))

    def test_many_tables(self):
        for table in TABLES:
            for a, b in permutations(range(len(table[0])), 2):
                self.look_at(table, a, b)

    def test_turned_both_ways(self):
        counts = [(tried, well) for tried in range(1, 4) for well in range(tried + 1)]
        seen = {}
        for numbers in product(counts, repeat=4):
            table = [(numbers[0], numbers[1]), (numbers[2], numbers[3])]
            if set(says(table, 0, 1)) in ({1}, {-1}):
                seen[self.look_at(table, 0, 1)] = True
        self.assertTrue(set(seen) >= {("turned", 1), ("turned", -1), ("kept", 1), ("kept", -1)})

    def test_refusals(self):
        assert_refused_as_leads(self, gap)

    def test_what_is_handed_in_stays(self):
        assert_own(self, gap, list(TURNED), 0, 1)
        assert_own(self, leads, list(TURNED), 0, 1)


if __name__ == "__main__":
    unittest.main()
