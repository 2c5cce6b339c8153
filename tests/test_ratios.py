import unittest
from fractions import Fraction
from math import gcd, lcm

from othersum.errors import NoRatio
from othersum.ratios import common_bottom, less, minus, over, plus, ratio_of, times, top_over, total

GREAT = 10 ** 30 - 1
PRIME = 10 ** 29 + 319
SOME = [ratio_of(top, bottom) for top in range(-7, 8) for bottom in range(1, 7)]
SOME += [(GREAT, PRIME), (-PRIME, GREAT), (1, GREAT), (GREAT, 1), (PRIME - 1, PRIME)]


def fraction(ratio):
    return Fraction(ratio[0], ratio[1])


class RatioCase(unittest.TestCase):
    def assert_ratio(self, told, due):
        """told is a ratio by its form, and is the fraction due."""
        self.assertIs(type(told), tuple)
        self.assertEqual([type(number) for number in told], [int, int])
        self.assertGreaterEqual(told[1], 1)
        self.assertEqual(gcd(told[0], told[1]), 1)
        self.assertEqual(told, (due.numerator, due.denominator))


class RatioOf(RatioCase):
    def test_plain_ones(self):
        for top, bottom, due in (
            (1, 2, (1, 2)), (2, 4, (1, 2)), (6, 3, (2, 1)), (5, 5, (1, 1)), (12, 18, (2, 3)), (7, 1, (7, 1)),
        ):
            self.assertEqual(ratio_of(top, bottom), due)

    def test_below_nought(self):
        self.assertEqual(ratio_of(-6, 4), (-3, 2))
        self.assertEqual(ratio_of(6, -4), (-3, 2))
        self.assertEqual(ratio_of(-6, -4), (3, 2))
        self.assertEqual(ratio_of(-1, 1), (-1, 1))
        self.assertEqual(ratio_of(1, -1), (-1, 1))

    def test_nought(self):
        for bottom in (1, 2, 9, -1, -5, GREAT, -GREAT):
            self.assertEqual(ratio_of(0, bottom), (0, 1))

    def test_every_small_one(self):
        for top in range(-30, 31):
            for bottom in range(-30, 31):
                if bottom != 0:
                    self.assert_ratio(ratio_of(top, bottom), Fraction(top, bottom))

    def test_thirty_figures(self):
        self.assertEqual(ratio_of(GREAT, GREAT), (1, 1))
        self.assertEqual(ratio_of(GREAT, -GREAT), (-1, 1))
        self.assertEqual(ratio_of(3 * 10 ** 29, 9 * 10 ** 29), (1, 3))
        numbers = [GREAT, GREAT - 1, PRIME, PRIME - 1, 6 ** 38, 10 ** 29, 1, -GREAT, -PRIME, -(6 ** 38)]
        for top in numbers:
            for bottom in numbers:
                self.assert_ratio(ratio_of(top, bottom), Fraction(top, bottom))

    def test_many_figures(self):
        # Neighbours in this row make the divisor be sought in the most steps.
        one, other = 1, 1
        while other < 10 ** 2000:
            one, other = other, one + other
        self.assert_ratio(ratio_of(one, other), Fraction(one, other))
        self.assert_ratio(ratio_of(one * 12, other * -8), Fraction(one * 12, other * -8))

    def test_no_bottom(self):
        for top in (0, 1, -1, 5, GREAT, -GREAT):
            with self.assertRaises(NoRatio):
                ratio_of(top, 0)


class Reckoning(RatioCase):
    def test_plain_ones(self):
        self.assertEqual(plus((1, 6), (1, 3)), (1, 2))
        self.assertEqual(minus((1, 2), (1, 6)), (1, 3))
        self.assertEqual(minus((1, 6), (1, 2)), (-1, 3))
        self.assertEqual(times((2, 3), (3, 4)), (1, 2))
        self.assertEqual(over((1, 2), (3, 4)), (2, 3))
        self.assertEqual(over((1, 2), (-3, 4)), (-2, 3))
        self.assertEqual(over((-1, 2), (-3, 4)), (2, 3))

    def test_nought(self):
        self.assertEqual(plus((0, 1), (0, 1)), (0, 1))
        self.assertEqual(plus((1, 3), (-1, 3)), (0, 1))
        self.assertEqual(minus((5, 7), (5, 7)), (0, 1))
        self.assertEqual(minus((0, 1), (5, 7)), (-5, 7))
        self.assertEqual(times((0, 1), (-5, 7)), (0, 1))
        self.assertEqual(over((0, 1), (-5, 7)), (0, 1))

    def test_all_against_fractions(self):
        for one in SOME:
            for other in SOME:
                first, second = fraction(one), fraction(other)
                self.assert_ratio(plus(one, other), first + second)
                self.assert_ratio(minus(one, other), first - second)
                self.assert_ratio(times(one, other), first * second)
                if second != 0:
                    self.assert_ratio(over(one, other), first / second)

    def test_put_back(self):
        for one in SOME:
            for other in SOME:
                self.assertEqual(plus(minus(one, other), other), one)
                if other[0] != 0:
                    self.assertEqual(times(over(one, other), other), one)

    def test_total(self):
        self.assertEqual(total([]), (0, 1))
        for length in range(1, len(SOME) + 1):
            ratios = SOME[:length]
            self.assert_ratio(total(ratios), sum(map(fraction, ratios)))
            self.assertEqual(ratios, SOME[:length])

    def test_common_bottom(self):
        self.assertEqual(common_bottom([]), 1)
        self.assertEqual(common_bottom([(1, 4), (5, 6), (-1, 2)]), 12)
        for length in range(1, len(SOME)):
            bottom = common_bottom(SOME[:length])
            self.assertEqual(bottom, lcm(*[ratio[1] for ratio in SOME[:length]]))
            for ratio in SOME[:length]:
                self.assertEqual(Fraction(top_over(ratio, bottom), bottom), fraction(ratio))

    def test_over_nought(self):
        for one in SOME:
            with self.assertRaises(NoRatio):
                over(one, (0, 1))

    def test_told_ones_go_on_with_all_their_figures(self):
        told, due = (1, 1), Fraction(1)
        for step in range(1, 30):
            told = plus(told, (1, PRIME + step))
            due += Fraction(1, PRIME + step)
        self.assertGreater(told[1], 10 ** 800)
        self.assert_ratio(told, due)
        self.assert_ratio(over(told, minus(told, (1, 1))), due / (due - 1))


class Less(unittest.TestCase):
    def test_plain_ones(self):
        self.assertIs(less((1, 3), (1, 2)), True)
        self.assertIs(less((1, 2), (1, 3)), False)
        self.assertIs(less((2, 3), (3, 4)), True)
        self.assertIs(less((3, 4), (2, 3)), False)

    def test_below_nought(self):
        self.assertIs(less((-1, 2), (-1, 3)), True)
        self.assertIs(less((-1, 3), (-1, 2)), False)
        self.assertIs(less((-1, 2), (0, 1)), True)
        self.assertIs(less((0, 1), (-1, 2)), False)
        self.assertIs(less((-1, 2), (1, 5)), True)

    def test_alike(self):
        for one in SOME:
            self.assertIs(less(one, one), False)

    def test_all_against_fractions(self):
        for one in SOME:
            for other in SOME:
                self.assertIs(less(one, other), fraction(one) < fraction(other))

    def test_nearly_the_same(self):
        self.assertIs(less((GREAT - 2, GREAT - 1), (GREAT - 1, GREAT)), True)
        self.assertIs(less((GREAT - 1, GREAT), (GREAT - 2, GREAT - 1)), False)


if __name__ == "__main__":
    unittest.main()
