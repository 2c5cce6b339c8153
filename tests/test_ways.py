import random
import unittest
from fractions import Fraction
from itertools import permutations

from othersum.errors import NoShare, NoWeights
from othersum.ways import firsts
from samples import GREAT, TURNED, assert_own, assert_ratio, fraction, share, some_tables


def by_weights(table, house, weights):
    whole = sum(weights)
    return sum(Fraction(weight, whole) * share(part[house]) for weight, part in zip(weights, table) if weight > 0)


def houses_at(table, weights, others, t):
    along = [(1 - t) * by_weights(table, house, weights) + t * by_weights(table, house, others)
             for house in range(len(table[0]))]
    return [house for house, value in enumerate(along) if value == max(along)]


class Firsts(unittest.TestCase):
    def look_at(self, table, weights, others):
        """Holds what is told against the words of the promise."""
        told = firsts(table, weights, others)
        self.assertIs(type(told), list)
        self.assertEqual(told[0][0], (0, 1))
        self.assertEqual(told[-1][1], (1, 1))
        for place, stretch in enumerate(told):
            self.assertIs(type(stretch), tuple)
            low, high, houses = stretch
            assert_ratio(self, low, fraction(low))
            assert_ratio(self, high, fraction(high))
            self.assertLess(fraction(low), fraction(high))
            self.assertIs(type(houses), list)
            if place > 0:
                self.assertEqual(low, told[place - 1][1])
                self.assertNotEqual(houses, told[place - 1][2])
            for step in (1, 2, 5, 8, 9):
                t = fraction(low) + (fraction(high) - fraction(low)) * Fraction(step, 10)
                self.assertEqual(houses_at(table, weights, others, t), houses)
            # Straight lines that are greatest at both ends are so between them.
            for end in (low, high):
                self.assertTrue(set(houses) <= set(houses_at(table, weights, others, fraction(end))))
        return told

    def test_one_stretch(self):
        self.assertEqual(firsts(TURNED, [1, 1], [1, 0]), [((0, 1), (1, 1), [0])])
        self.assertEqual(firsts(TURNED, [7, 1], [1, 0]), [((0, 1), (1, 1), [0])])

    def test_several_stretches(self):
        table = [((4, 4), (4, 0), (4, 3)), ((4, 0), (4, 4), (4, 3))]
        self.assertEqual(firsts(table, [1, 0], [0, 1]),
                         [((0, 1), (1, 4), [0]), ((1, 4), (3, 4), [2]), ((3, 4), (1, 1), [1])])
        self.assertEqual(firsts(table, [0, 5], [3, 0]),
                         [((0, 1), (1, 4), [1]), ((1, 4), (3, 4), [2]), ((3, 4), (1, 1), [0])])
        self.assertEqual(firsts(table, [1, 1], [0, 1]), [((0, 1), (1, 2), [2]), ((1, 2), (1, 1), [1])])

    def test_ends_that_are_fractions(self):
        table = [((7, 5), (11, 2)), ((5, 1), (3, 2))]
        told = self.look_at(table, [3, 1], [1, 6])
        self.assertEqual(len(told), 2)
        self.assertGreater(told[0][1][1], 20)

    def test_houses_that_are_alike_all_along(self):
        table = [((4, 2), (2, 1), (4, 1), (6, 3)), ((4, 1), (8, 2), (4, 2), (4, 1))]
        self.assertEqual(firsts(table, [1, 0], [0, 1]), [((0, 1), (1, 2), [0, 1, 3]), ((1, 2), (1, 1), [2])])
        self.assertEqual(firsts([((1, 1), (2, 2))], [3], [1]), [((0, 1), (1, 1), [0, 1])])

    def test_a_house_that_is_first_at_one_t_alone(self):
        table = [((4, 4), (4, 0), (4, 2)), ((4, 0), (4, 4), (4, 2))]
        self.assertEqual(firsts(table, [1, 0], [0, 1]), [((0, 1), (1, 2), [0]), ((1, 2), (1, 1), [1])])

    def test_several_lines_through_one_point(self):
        # House by house what comes well of 12 in either part: at t 1/2 all have the same share.
        wells = [(12, 0), (0, 12), (6, 6), (9, 3), (3, 9)]
        for order in permutations(range(5)):
            table = [tuple((12, wells[house][part]) for house in order) for part in (0, 1)]
            due = [((0, 1), (1, 2), [order.index(0)]), ((1, 2), (1, 1), [order.index(1)])]
            self.assertEqual(firsts(table, [1, 0], [0, 1]), due)

    def test_several_that_begin_alike(self):
        for order in permutations(range(3)):
            table = [tuple((4, (2, 2, 1)[house]) for house in order), tuple((4, (3, 1, 1)[house]) for house in order)]
            self.assertEqual(firsts(table, [1, 0], [0, 1]), [((0, 1), (1, 1), [order.index(0)])])

    def test_a_house_that_is_first_at_an_end_alone(self):
        table = [((4, 4), (4, 4), (4, 1)), ((4, 1), (4, 0), (4, 1))]
        self.assertEqual(firsts(table, [1, 0], [0, 1]), [((0, 1), (1, 1), [0])])
        self.assertEqual(firsts(table, [0, 1], [1, 0]), [((0, 1), (1, 1), [0])])

    def test_weights_that_are_alike(self):
        self.assertEqual(firsts(TURNED, [1, 1], [1, 1]), [((0, 1), (1, 1), [0])])
        self.assertEqual(firsts(TURNED, [1, 2], [7, 14]), [((0, 1), (1, 1), [0])])
        self.assertEqual(firsts([((4, 4), (4, 0)), ((4, 0), (4, 4))], [3, 3], [1, 1]), [((0, 1), (1, 1), [0, 1])])

    def test_parts_of_weight_nought_in_which_houses_were_not_tried(self):
        table = [((4, 4), (4, 0)), ((0, 0), (0, 0)), ((4, 0), (4, 4)), ((0, 0), (5, 5))]
        self.assertEqual(firsts(table, [1, 0, 0, 0], [0, 0, 2, 0]), [((0, 1), (1, 2), [0]), ((1, 2), (1, 1), [1])])

    def test_many_tables(self):
        chance = random.Random(51)
        lengths = {}
        for most in (2, 4, 12, GREAT):
            for table in some_tables(52 + most % 7, 120, most=most, untried=False):
                weights = [chance.randint(0, 5) for part in table]
                others = [chance.randint(0, 5) for part in table]
                if any(weights) and any(others):
                    lengths[len(self.look_at(table, weights, others))] = True
        self.assertTrue(set(lengths) >= {1, 2, 3}, lengths)

    def test_corners_of_many_houses(self):
        # Each house is first on a stretch of its own, in the order of their steepness.
        table = [tuple((100, 100 - house * house) for house in range(6)),
                 tuple((100, 50 + 12 * house - house * house) for house in range(6))]
        told = self.look_at(table, [1, 0], [0, 1])
        self.assertEqual([stretch[2] for stretch in told], [[house] for house in range(6)])

    def test_no_weights(self):
        wrong = [[], [1], [1, 1, 1], [0, 0], [-1, 1], [1, -1], [-1, -1], [2, -1], [GREAT, -1], [0], [0, 0, 0]]
        untried = [((0, 0), (1, 1)), ((0, 0), (0, 0))]
        for table in (TURNED, untried):
            for weights in wrong:
                with self.assertRaises(NoWeights, msg=weights):
                    firsts(table, weights, [1, 1])
                with self.assertRaises(NoWeights, msg=weights):
                    firsts(table, [1, 1], weights)
                with self.assertRaises(NoWeights, msg=weights):
                    firsts(table, weights, weights)
        for truth in (True, False):
            with self.assertRaises(NoWeights):
                firsts(TURNED, [1, truth], [1, 1])

    def test_no_share_names_the_first_part_and_the_first_house_there(self):
        table = [((1, 1), (1, 0), (1, 1)), ((1, 1), (0, 0), (0, 0)), ((0, 0), (1, 1), (0, 0)), ((1, 1), (1, 0), (0, 0))]
        for weights, others, part, house in (([1, 1, 1, 1], [1, 1, 1, 1], 1, 1), ([1, 0, 1, 0], [1, 0, 0, 0], 2, 0),
                                             ([1, 0, 0, 0], [0, 0, 0, 9], 3, 2), ([0, 0, 0, 1], [0, 0, 1, 0], 2, 0),
                                             ([0, 0, 0, 1], [1, 1, 0, 0], 1, 1), ([0, 0, 2, 0], [0, 0, 3, 0], 2, 0)):
            with self.assertRaises(NoShare) as caught:
                firsts(table, weights, others)
            self.assertEqual((caught.exception.part, caught.exception.house), (part, house))
        self.assertEqual(firsts(table, [1, 0, 0, 0], [2, 0, 0, 0]), [((0, 1), (1, 1), [0, 2])])

    def test_what_is_told_is_the_askers_own(self):
        table = [((4, 4), (4, 0), (4, 3)), ((4, 0), (4, 4), (4, 3))]
        assert_own(self, firsts, table, [1, 0], [0, 1])

    def test_sixty_parts_of_thirty_figures(self):
        table = [tuple((GREAT - part - 60 * house, GREAT // (2 + part * house)) for house in range(6)) for part in range(60)]
        weights = [GREAT - 7 * part for part in range(60)]
        others = [GREAT // (part + 1) for part in range(60)]
        told = firsts(table, weights, others)
        self.assertEqual(told[0][0], (0, 1))
        self.assertEqual(told[-1][1], (1, 1))


if __name__ == "__main__":
    unittest.main()
