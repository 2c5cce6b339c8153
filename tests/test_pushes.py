import random
import unittest
from fractions import Fraction
from itertools import permutations

from othersum.errors import NoHouse, NoShare, NoTable, NoWeights
from othersum.mixings import mixing, weights_of
from othersum.pushes import mixed, push, pushed
from samples import (GREAT, NO_NUMBERS, TURNED, assert_no_house, assert_no_pair, assert_own, assert_ratio, fraction, pair,
                     share, some_tables, sums)

TABLES = some_tables(41, 150) + some_tables(42, 100, houses=2, most=3) + some_tables(43, 20, most=GREAT)
GAPPED = [((0, 0), (4, 1)), ((6, 3), (0, 0)), ((2, 2), (0, 0)), ((4, 1), (4, 3))]
NO_WEIGHTS = [[], [(1, 1)], [(1, 2), (1, 2), (0, 1)], [(1, 1), (0, 1), (0, 1)], [(3, 2), (-1, 2)], [(-1, 2), (3, 2)],
              [(1, 2), (1, 3)], [(1, 2), (2, 3)], [(0, 1), (0, 1)], [(1, 1), (1, 1)], [(GREAT - 1, GREAT), (0, 1)],
              [(2, 1), (-1, 1)], [(1, 1), (1, GREAT)]]


def tried_houses(table):
    return [house for house in range(len(table[0])) if any(part[house][0] for part in table)]


class Mixed(unittest.TestCase):
    def test_plain(self):
        self.assertEqual(mixed(TURNED, 0, [(1, 2), (1, 2)]), (3, 5))
        self.assertEqual(mixed(TURNED, 1, [(1, 2), (1, 2)]), (1, 2))
        self.assertEqual(mixed(TURNED, 0, [(0, 1), (1, 1)]), (3, 10))
        self.assertEqual(mixed(TURNED, 0, [(1, 3), (2, 3)]), (1, 2))

    def test_weights_of_nought_where_the_house_was_not_tried(self):
        self.assertEqual(mixed(GAPPED, 0, [(0, 1), (1, 2), (0, 1), (1, 2)]), (3, 8))
        self.assertEqual(mixed(GAPPED, 1, [(1, 1), (0, 1), (0, 1), (0, 1)]), (1, 4))

    def test_by_its_own_weights_it_is_the_share_of_the_whole(self):
        for table in TABLES:
            for house in tried_houses(table):
                self.assertEqual(mixed(table, house, weights_of(table, house)), mixing(table, house)[0])

    def test_many_weights(self):
        chance = random.Random(44)
        for table in some_tables(45, 100, untried=False):
            numbers = [chance.randint(0, 9) for part in table]
            numbers[chance.randrange(len(table))] += 1
            weights = [Fraction(number, sum(numbers)) for number in numbers]
            for house in range(len(table[0])):
                due = sum(weight * share(part[house]) for weight, part in zip(weights, table))
                assert_ratio(self, mixed(table, house, [pair(weight) for weight in weights]), due)

    def test_sixty_parts_of_thirty_figures(self):
        table = [((GREAT - 2 * part, GREAT // (part + 2)), (1, 1)) for part in range(60)]
        due = sum(Fraction(1, 60) * share(part[0]) for part in table)
        assert_ratio(self, mixed(table, 0, [(1, 60)] * 60), due)

    def test_no_weights(self):
        for weights in NO_WEIGHTS:
            with self.assertRaises(NoWeights, msg=weights):
                mixed(TURNED, 0, weights)

    def test_no_weights_go_ahead_of_no_share(self):
        table = [((0, 0), (1, 1)), ((0, 0), (1, 1))]
        for weights in NO_WEIGHTS:
            with self.assertRaises(NoWeights, msg=weights):
                mixed(table, 0, weights)

    def test_no_share_names_the_first_such_part(self):
        for house, weights, part in ((0, [(1, 2), (1, 2), (0, 1), (0, 1)], 0), (1, [(0, 1), (0, 1), (1, 2), (1, 2)], 2),
                                     (1, [(1, 4), (1, 4), (1, 4), (1, 4)], 1), (1, [(1, 2), (0, 1), (1, 2), (0, 1)], 2),
                                     (0, [(1, 1), (0, 1), (0, 1), (0, 1)], 0)):
            with self.assertRaises(NoShare) as caught:
                mixed(GAPPED, house, weights)
            self.assertEqual((caught.exception.part, caught.exception.house), (part, house))

    def test_a_house_tried_nowhere(self):
        with self.assertRaises(NoShare) as caught:
            mixed([((1, 1), (0, 0)), ((1, 1), (0, 0))], 1, [(0, 1), (1, 1)])
        self.assertEqual((caught.exception.part, caught.exception.house), (1, 1))

    def test_no_house_goes_ahead_of_both(self):
        for weights in NO_WEIGHTS[:3] + [[(1, 2), (1, 2)]]:
            assert_no_house(self, NoHouse, lambda table, house: mixed(table, house, weights), TURNED, 2)

    def test_what_is_handed_in_stays(self):
        assert_own(self, mixed, list(TURNED), 0, [(1, 3), (2, 3)])


class Pushed(unittest.TestCase):
    def test_plain(self):
        self.assertEqual(pushed(TURNED, 0, 0, (0, 1)), [(1, 11), (10, 11)])
        self.assertEqual(pushed(TURNED, 0, 0, (1, 1)), [(1, 1), (0, 1)])
        self.assertEqual(pushed(TURNED, 0, 0, (1, 2)), [(6, 11), (5, 11)])
        self.assertEqual(pushed(TURNED, 0, 1, (1, 2)), [(1, 22), (21, 22)])

    def test_to_a_part_in_which_the_house_was_not_tried(self):
        self.assertEqual(pushed(GAPPED, 0, 0, (1, 4)), [(1, 4), (3, 8), (1, 8), (1, 4)])
        self.assertEqual(pushed(GAPPED, 1, 2, (1, 1)), [(0, 1), (0, 1), (1, 1), (0, 1)])

    def test_many_tables(self):
        chance = random.Random(46)
        for table in TABLES:
            for house in tried_houses(table):
                for part in range(len(table)):
                    t = Fraction(chance.randint(0, 7), 7)
                    told = pushed(table, house, part, pair(t))
                    self.assertIs(type(told), list)
                    for number, weight in enumerate(map(fraction, weights_of(table, house))):
                        assert_ratio(self, told[number], (1 - t) * weight + (t if number == part else 0))
                    self.assertEqual(len(told), len(table))
                    self.assertEqual(sum(map(fraction, told)), 1)

    def test_refusals_in_their_order(self):
        table = [((4, 1), (0, 0)), ((1, 0), (0, 0))]
        for part in (0, 1, 2, -1, True, None):
            for t in ((1, 2), (2, 1), (-1, 2)):
                assert_no_house(self, NoHouse, lambda thing, house: pushed(thing, house, part, t), table, 2)
                with self.assertRaises(NoShare) as caught:
                    pushed(table, 1, part, t)
                self.assertEqual((caught.exception.part, caught.exception.house), (None, 1))
        for part in NO_NUMBERS + [2, -1, -2, GREAT, -GREAT]:
            for t in ((1, 2), (2, 1), (-1, 2)):
                with self.assertRaises(NoTable):
                    pushed(table, 0, part, t)
        for t in ((2, 1), (-1, 2), (-1, 1), (3, 2), (-1, GREAT), (GREAT, GREAT - 1)):
            with self.assertRaises(NoWeights):
                pushed(table, 0, 0, t)

    def test_what_is_told_is_the_askers_own(self):
        assert_own(self, pushed, list(GAPPED), 0, 0, (1, 4))


class Push(unittest.TestCase):
    def test_level_already(self):
        self.assertEqual(push(TURNED, 0, 1), ("can", 1, 0, (0, 1)))
        self.assertEqual(push([((2, 1), (4, 1)), ((2, 1), (4, 3))], 0, 1), ("can", 0, 1, (0, 1)))

    def test_above_nought(self):
        self.assertEqual(push(TURNED, 1, 0), ("can", 1, 0, (43, 120)))

    def test_never(self):
        self.assertEqual(push([((4, 3), (4, 1)), ((4, 2), (4, 2))], 0, 1), ("never", 1, 1))
        self.assertEqual(push([((4, 3), (4, 1)), ((4, 4), (4, 2))], 0, 1), ("never", 0, 1))
        self.assertEqual(push([((4, 3), (4, 3))], 0, 1), ("never", 0, 0))

    def test_a_part_in_which_a_house_was_not_tried(self):
        self.assertEqual(push([((4, 3), (0, 0)), ((0, 0), (4, 1))], 0, 1), ("never", 0, 1))
        self.assertEqual(push([((4, 3), (0, 0)), ((0, 0), (4, 1))], 1, 0), ("can", 1, 0, (0, 1)))
        self.assertEqual(push([((0, 0), (1, 0)), ((2, 2), (1, 1)), ((2, 1), (0, 0))], 0, 1), ("can", 2, 1, (1, 3)))

    def test_many_tables(self):
        seen = {}
        for table in TABLES:
            for a, b in permutations(tried_houses(table), 2):
                told = push(table, a, b)
                self.assertIs(type(told), tuple)
                self.look_at(table, a, b, told)
                seen[(told[0], told[-1] == (0, 1))] = True
        self.assertEqual(sorted(seen), [("can", False), ("can", True), ("never", False)])

    def look_at(self, table, a, b, told):
        ones = [share(part[a]) for part in table]
        twos = [share(part[b]) for part in table]
        least = min(one for one in ones if one is not None)
        greatest = max(two for two in twos if two is not None)
        self.assertEqual(told[1:3], (ones.index(least), twos.index(greatest)))
        if least >= greatest:
            self.assertEqual(told[0], "never")
            self.assertEqual(len(told), 3)
            return
        self.assertEqual(told[0], "can")
        word, i, j, t = told
        lead = share(sums(part[a] for part in table)) - share(sums(part[b] for part in table))
        if lead <= 0:
            self.assertEqual(t, (0, 1))
        else:
            first = mixed(table, a, pushed(table, a, i, t))
            self.assertEqual(first, mixed(table, b, pushed(table, b, j, t)))
            self.assertTrue(0 < fraction(t) < 1)
        for more in ((fraction(t) + 1) / 2, Fraction(1)):
            first = mixed(table, a, pushed(table, a, i, pair(more)))
            self.assertLess(fraction(first), fraction(mixed(table, b, pushed(table, b, j, pair(more)))))

    def test_no_houses(self):
        assert_no_pair(self, NoHouse, push, TURNED, 2)
        assert_no_pair(self, NoHouse, push, [((0, 0), (0, 0), (0, 0))], 3)

    def test_a_house_tried_in_no_part(self):
        table = [((4, 1), (0, 0), (0, 0)), ((1, 0), (0, 0), (0, 0))]
        for a, b, house in ((0, 1, 1), (1, 0, 1), (1, 2, 1), (2, 1, 2), (0, 2, 2)):
            with self.assertRaises(NoShare) as caught:
                push(table, a, b)
            self.assertEqual((caught.exception.part, caught.exception.house), (None, house))

    def test_what_is_handed_in_stays(self):
        assert_own(self, push, list(TURNED), 1, 0)


if __name__ == "__main__":
    unittest.main()
