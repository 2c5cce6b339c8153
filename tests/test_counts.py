import unittest
from fractions import Fraction

from othersum.counts import is_count, said, share_of, together

GREAT = 10 ** 30 - 1
SMALL = [(tried, well) for tried in range(6) for well in range(tried + 1)]


class IsCount(unittest.TestCase):
    def test_counts(self):
        for thing in SMALL + [(GREAT, 0), (GREAT, GREAT), (GREAT, GREAT - 1), (10 ** 900, 1)]:
            self.assertIs(is_count(thing), True, thing)

    def test_well_beyond_its_bounds(self):
        for thing in ((0, 1), (3, 4), (3, -1), (0, -1), (-1, 0), (-1, -1), (-3, -4), (-4, -3), (GREAT - 1, GREAT)):
            self.assertIs(is_count(thing), False, thing)

    def test_truths(self):
        for thing in ((True, True), (True, False), (False, False), (1, True), (5, True), (5, False), (True, 0),
                      (True, 1), (False, 0)):
            self.assertIs(is_count(thing), False, thing)

    def test_other_lengths(self):
        for thing in ((), (3,), (0,), (3, 2, 1), (0, 0, 0), ((3, 2),)):
            self.assertIs(is_count(thing), False, thing)

    def test_no_whole_numbers(self):
        for other in (1.0, "1", None, (1,), [1], {}, 1j, Fraction(1), b"1", object(), float("nan")):
            self.assertIs(is_count((3, other)), False, other)
            self.assertIs(is_count((other, 0)), False, other)
            self.assertIs(is_count((other, other)), False, other)

    def test_no_tuples(self):
        things = [[3, 2], [], {}, {3: 2, 2: 1}, "32", "", b"32", None, True, 0, 3, 2.5, object(), Fraction(2, 3), int,
                  tuple, len, range(2), iter((3, 2)), {3, 2}, frozenset((3, 2)), [(3, 2)]]
        for thing in things:
            self.assertIs(is_count(thing), False, thing)


class Together(unittest.TestCase):
    def test_of_none(self):
        self.assertEqual(together([]), (0, 0))
        self.assertEqual(together(()), (0, 0))

    def test_of_one(self):
        for count in SMALL + [(GREAT, GREAT - 7)]:
            self.assertEqual(together([count]), count)
            self.assertEqual(together((count,)), count)

    def test_of_many(self):
        self.assertEqual(together([(4, 1), (6, 5)]), (10, 6))
        self.assertEqual(together(((4, 1), (0, 0), (6, 5), (4, 1))), (14, 7))
        self.assertEqual(together([(GREAT, GREAT - 1)] * 60), (60 * GREAT, 60 * GREAT - 60))

    def test_a_count_is_told(self):
        for counts in ([], (), [(4, 1)], [(4, 1), (6, 5)], tuple(SMALL)):
            told = together(counts)
            self.assertIs(type(told), tuple)
            self.assertIs(is_count(told), True)

    def test_in_whatever_steps(self):
        whole = together(SMALL)
        for cut in range(len(SMALL) + 1):
            self.assertEqual(together([together(SMALL[:cut]), together(SMALL[cut:])]), whole)
        self.assertEqual(together(SMALL[::-1]), whole)

    def test_what_is_handed_in_stays(self):
        counts = [(4, 1), (6, 5), (0, 0)]
        told = together(counts)
        self.assertEqual(counts, [(4, 1), (6, 5), (0, 0)])
        counts.append((9, 9))
        counts[0] = (1, 1)
        self.assertEqual(told, (10, 6))
        self.assertEqual(together([(4, 1), (6, 5), (0, 0)]), (10, 6))


class ShareOf(unittest.TestCase):
    def test_none_tried(self):
        self.assertIsNone(share_of((0, 0)))

    def test_lowest_terms(self):
        self.assertEqual(share_of((6, 4)), (2, 3))
        self.assertEqual(share_of((7, 3)), (3, 7))
        self.assertEqual(share_of((3 * 10 ** 29, 10 ** 29)), (1, 3))
        self.assertEqual(share_of((GREAT, GREAT - 1)), (GREAT - 1, GREAT))

    def test_nought_and_one(self):
        for tried in (1, 2, 9, GREAT):
            self.assertEqual(share_of((tried, 0)), (0, 1))
            self.assertEqual(share_of((tried, tried)), (1, 1))

    def test_all_small_ones(self):
        for tried, well in SMALL:
            if tried > 0:
                due = Fraction(well, tried)
                told = share_of((tried, well))
                self.assertIs(type(told), tuple)
                self.assertEqual(told, (due.numerator, due.denominator))


class Said(unittest.TestCase):
    def assert_said(self, one, other, due):
        self.assertIs(type(said(one, other)), int)
        self.assertEqual(said(one, other), due)
        self.assertEqual(said(other, one), -due)

    def test_plain_ones(self):
        self.assert_said((4, 3), (4, 1), 1)
        self.assert_said((10, 9), (1000, 899), 1)
        self.assert_said((1, 1), (GREAT, GREAT - 1), 1)
        self.assert_said((5, 0), (GREAT, 1), -1)

    def test_the_same_share(self):
        self.assert_said((2, 1), (4, 2), 0)
        self.assert_said((7, 0), (3, 0), 0)
        self.assert_said((7, 7), (GREAT, GREAT), 0)

    def test_one_or_both_not_tried(self):
        for count in SMALL + [(GREAT, 1)]:
            self.assertIsNone(said((0, 0), count))
            self.assertIsNone(said(count, (0, 0)))

    def test_nearly_the_same_with_thirty_figures(self):
        self.assert_said((GREAT, GREAT - 1), (GREAT - 1, GREAT - 2), 1)
        half = 5 * 10 ** 29
        self.assert_said((GREAT - 1, half - 1), (GREAT - 2, half - 1), -1)
        self.assert_said((GREAT, GREAT // 3), (3, 1), 0)
        self.assert_said((GREAT, GREAT // 3 + 1), (3, 1), 1)
        self.assert_said((GREAT, GREAT // 3 - 1), (3, 1), -1)

    def test_all_small_ones(self):
        tried = [count for count in SMALL if count[0] > 0]
        for one in tried:
            for other in tried:
                first, second = Fraction(one[1], one[0]), Fraction(other[1], other[0])
                self.assert_said(one, other, (first > second) - (first < second))


if __name__ == "__main__":
    unittest.main()
