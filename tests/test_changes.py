import unittest
from itertools import product

from othersum.changes import fewest, fewest_below, weakest
from othersum.counts import said
from othersum.errors import NoHouse, NoLead
from samples import GREAT, TURNED, assert_no_pair, assert_own, some_tables

COUNTS = [(tried, well) for tried in range(7) for well in range(tried + 1)]


def due_changes(one, other, numbers):
    """Goes through all p and q."""
    found = []
    for p, q in product(range(one[1] + 1), range(other[0] - other[1] + 1)):
        if said((one[0], one[1] - p), (other[0], other[1] + q)) in numbers:
            found.append((p + q, -p, q))
    many, p, q = min(found)
    return (-p, q)


class Fewest(unittest.TestCase):
    CALLS = ((fewest, (0, -1)), (fewest_below, (-1,)))

    def test_every_small_one(self):
        looked = 0
        for one, other in product(COUNTS, repeat=2):
            for call, numbers in self.CALLS:
                if said(one, other) == 1:
                    told = call(one, other)
                    self.assertIs(type(told), tuple)
                    self.assertEqual(told, due_changes(one, other, numbers), (one, other))
                    looked += 1
                else:
                    with self.assertRaises(NoLead):
                        call(one, other)
        self.assertGreater(looked, 500)

    def test_counts_that_are_unlike(self):
        for one in ((40, 39), (37, 20), (3, 2), (1, 1), (25, 25), (12, 1)):
            for other in ((41, 7), (9, 0), (2, 1), (1, 0), (30, 29), (13, 1), (26, 24)):
                for call, numbers in self.CALLS:
                    if said(one, other) == 1:
                        self.assertEqual(call(one, other), due_changes(one, other, numbers))

    def test_of_several_the_greatest_p(self):
        self.assertEqual(fewest((10, 6), (10, 4)), (2, 0))
        self.assertEqual(fewest((10, 7), (10, 4)), (3, 0))
        self.assertEqual(fewest_below((10, 6), (10, 4)), (3, 0))
        self.assertEqual(fewest((10, 9), (8, 3)), (4, 1))
        self.assertEqual(due_changes((10, 9), (8, 3), (0, -1)), (4, 1))

    def test_p_and_q_at_their_ends(self):
        self.assertEqual(fewest((1, 1), (5, 0)), (1, 0))
        self.assertEqual(fewest_below((1, 1), (5, 0)), (1, 1))
        self.assertEqual(fewest((5, 5), (1, 0)), (0, 1))
        self.assertEqual(fewest_below((5, 5), (1, 0)), (1, 1))

    def test_thirty_figures(self):
        half = 5 * 10 ** 29
        self.assertEqual(fewest((GREAT, half + 7), (GREAT, half)), (7, 0))
        self.assertEqual(fewest_below((GREAT, half + 7), (GREAT, half)), (8, 0))
        self.assertEqual(fewest((GREAT, GREAT), (GREAT, 0)), (GREAT, 0))
        self.assertEqual(fewest_below((GREAT, GREAT), (GREAT, 0)), (GREAT, 1))
        self.assertEqual(fewest((GREAT, GREAT), (1, 0)), (0, 1))
        for one, other in (((GREAT, GREAT - 5), (10 ** 29, 17)), ((10 ** 29, 10 ** 29 - 3), (GREAT, GREAT // 7)),
                           ((GREAT, half), (10 ** 15, 3)), ((10 ** 15, 10 ** 14), (GREAT, 10 ** 28)),
                           ((GREAT, 10 ** 15), (GREAT - 1, 10 ** 14)), ((GREAT - 1, 10 ** 15), (GREAT, 10 ** 14))):
            self.assertEqual(said(one, other), 1)
            for call, numbers in self.CALLS:
                self.look_at(one, other, call(one, other), numbers)

    def look_at(self, one, other, told, numbers):
        """No way is shorter and none as short has a greater p: the least gain of the steps shows it."""
        p, q = told
        ills = other[0] - other[1]
        self.assertTrue(0 <= p <= one[1] and 0 <= q <= ills)
        self.assertIn(said((one[0], one[1] - p), (other[0], other[1] + q)), numbers)
        if p < one[1] and q > 0:
            after = said((one[0], one[1] - p - 1), (other[0], other[1] + q - 1))
            self.assertNotIn(after, numbers)
        few = p + q - 1
        if other[0] >= one[0]:
            best = (min(few, one[1]), few - min(few, one[1]))
        else:
            best = (few - min(few, ills), min(few, ills))
        self.assertNotIn(said((one[0], one[1] - best[0]), (other[0], other[1] + best[1])), numbers)

    def test_where_1_is_not_said(self):
        for one, other in (((4, 1), (4, 3)), ((4, 2), (2, 1)), ((0, 0), (4, 1)), ((4, 1), (0, 0)), ((0, 0), (0, 0)),
                           ((4, 0), (4, 0)), ((GREAT, GREAT // 3), (3, 1))):
            for call, numbers in self.CALLS:
                with self.assertRaises(NoLead):
                    call(one, other)


class Weakest(unittest.TestCase):
    def test_plain(self):
        self.assertEqual(weakest(TURNED, 0, 1), (0, 1, 0))
        self.assertEqual(weakest([TURNED[1]], 0, 1), (0, *fewest(*TURNED[1])))

    def test_the_first_of_those_that_are_alike(self):
        strong, one, other = ((10, 9), (10, 1)), ((10, 6), (10, 4)), ((20, 5), (10, 1))
        self.assertEqual(sum(fewest(*one)), sum(fewest(*other)))
        self.assertEqual(weakest([strong, one, other, one], 0, 1), (1, *fewest(*one)))
        self.assertEqual(weakest([strong, other, one], 0, 1), (1, *fewest(*other)))
        self.assertEqual(weakest([strong, strong], 0, 1), (0, 8, 0))

    def test_many_tables(self):
        looked = 0
        for table in some_tables(111, 1500, most=5):
            if all(said(part[1], part[0]) == 1 for part in table):
                told = weakest(table, 1, 0)
                changes = [fewest(part[1], part[0]) for part in table]
                lengths = [sum(one) for one in changes]
                first = lengths.index(min(lengths))
                self.assertEqual(told, (first, *changes[first]))
                self.assertIs(type(told), tuple)
                looked += 1
            else:
                with self.assertRaises(NoLead):
                    weakest(table, 1, 0)
        self.assertGreater(looked, 30)

    def test_refusals_in_their_order(self):
        for part in (((4, 1), (4, 3)), ((4, 2), (2, 1)), ((0, 0), (4, 1)), ((4, 1), (0, 0)), ((0, 0), (0, 0))):
            for table in ([part], [TURNED[0], part], [part, TURNED[0]]):
                with self.assertRaises(NoLead):
                    weakest(table, 0, 1)
                assert_no_pair(self, NoHouse, weakest, table, 2)
        assert_no_pair(self, NoHouse, weakest, TURNED, 2)

    def test_what_is_handed_in_stays(self):
        assert_own(self, weakest, list(TURNED), 0, 1)


if __name__ == "__main__":
    unittest.main()
