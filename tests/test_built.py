import unittest
from fractions import Fraction
from itertools import product

from othersum.bounds import apart, gap, leads, uneven
from othersum.built import laid, meeting
from othersum.counts import share_of
from othersum.errors import NoTable
from othersum.turnings import sums_of, turning
from samples import GREAT, assert_table, fraction, pair, share

NEAR = (GREAT - 1, GREAT)
SMALL = (1, GREAT)


class Built(unittest.TestCase):
    def assert_two_by_two(self, table):
        assert_table(self, table, 2)
        self.assertEqual(len(table), 2)
        for part in table:
            for count in part:
                self.assertGreater(count[0], 0)


class Meeting(Built):
    def look_at(self, lead, spread, unlike):
        lead, spread, unlike = [pair(fraction(ratio)) for ratio in (lead, spread, unlike)]
        table = meeting(lead, spread, unlike)
        self.assert_two_by_two(table)
        for part in table:
            self.assertEqual(share(part[0]) - share(part[1]), fraction(lead))
        self.assertEqual(leads(table, 0, 1)[::2], (lead, lead))
        self.assertEqual(apart(table, 1), spread)
        self.assertEqual(uneven(table, 0, 1)[0], unlike)
        due = fraction(lead) - fraction(unlike) * fraction(spread)
        told = gap(table, 0, 1)
        self.assertEqual(told[1], pair(due))
        self.assertEqual(told[0], told[1])
        turns = fraction(unlike) >= fraction(lead) / fraction(spread)
        self.assertEqual(turning(table, 0, 1)[0], "turned" if turns else "kept")
        # Above lead over apart the whole says the other, just at it that they are level.
        if turns:
            above = fraction(unlike) > fraction(lead) / fraction(spread)
            self.assertEqual(turning(table, 0, 1)[2], -1 if above else 0)

    def test_every_small_one(self):
        ratios = sorted({Fraction(top, bottom) for bottom in range(1, 7) for top in range(1, bottom + 1)})
        looked = 0
        for lead, spread, unlike in product(ratios, repeat=3):
            if lead + spread <= 1 and unlike < 1:
                self.look_at(pair(lead), pair(spread), pair(unlike))
                looked += 1
        self.assertGreater(looked, 400)

    def test_just_at_the_bound_above_and_below(self):
        self.look_at((1, 5), (2, 5), (1, 2))
        self.look_at((1, 5), (2, 5), (GREAT, 2 * GREAT - 1))
        self.look_at((1, 5), (2, 5), (GREAT, 2 * GREAT + 1))

    def test_lead_and_apart_together_1(self):
        self.look_at((1, 3), (2, 3), (1, 2))
        self.look_at((1, GREAT), (GREAT - 1, GREAT), (1, 2))
        self.look_at((GREAT - 1, GREAT), (1, GREAT), (1, 2))

    def test_thirty_figures(self):
        self.look_at((1, GREAT), (1, GREAT - 2), NEAR)
        self.look_at((1, GREAT - 6), (GREAT - 3, GREAT), SMALL)
        self.look_at((GREAT // 3 - 7, GREAT - 1), (GREAT // 2 - 1, GREAT - 4), (GREAT // 5, GREAT - 2))

    def test_each_bound_broken(self):
        half = (1, 2)
        third = (1, 3)
        wrong = [((0, 1), half, half), ((-1, 2), half, half), ((1, 1), half, half), ((2, 1), half, half),
                 (third, (0, 1), half), (third, (-1, 3), half), (third, (1, 1), half), (third, (5, 2), half),
                 (half, (2, 3), half), (half, (GREAT, 2 * GREAT - 1), half), ((1, 1), (1, 1), half),
                 ((2, 1), (-1, 1), half), ((-1, 1), (2, 1), half), ((1, 1), (0, 1), half), ((0, 1), (1, 1), half),
                 (third, half, (0, 1)), (third, half, (-1, 2)), (third, half, (1, 1)), (third, half, (3, 2)),
                 (third, half, (-1, GREAT)), (third, half, (GREAT, GREAT - 1)), ((0, 1), (0, 1), (0, 1))]
        for lead, spread, unlike in wrong:
            with self.assertRaises(NoTable, msg=(lead, spread, unlike)):
                meeting(lead, spread, unlike)

    def test_what_is_told_is_the_askers_own(self):
        told = meeting((1, 5), (2, 5), (1, 2))
        told.clear()
        self.look_at((1, 5), (2, 5), (1, 2))


class Laid(Built):
    def look_at(self, one, other, unlike):
        unlike = pair(fraction(unlike))
        table = laid(one, other, unlike)
        self.assert_two_by_two(table)
        for part in table:
            self.assertEqual(share(part[0]), share(part[1]))
        self.assertEqual([share_of(count) for count in sums_of(table)], [share_of(one), share_of(other)])
        self.assertEqual(uneven(table, 0, 1)[0], unlike)
        self.assertEqual(turning(table, 0, 1), ("open", 0))

    def test_every_small_one(self):
        counts = [(tried, well) for tried in range(6) for well in range(tried + 1)]
        ratios = [Fraction(top, bottom) for bottom in range(1, 6) for top in range(-1, bottom + 2)]
        told = 0
        for one, other in product(counts, repeat=2):
            for unlike in sorted(set(ratios)):
                if self.can(one, other, unlike):
                    self.look_at(one, other, pair(unlike))
                    told += 1
                else:
                    with self.assertRaises(NoTable, msg=(one, other, unlike)):
                        laid(one, other, pair(unlike))
        self.assertGreater(told, 200)

    def can(self, one, other, unlike):
        first, second = share(one), share(other)
        return (first is not None and second is not None and 0 < second < first < 1
                and first - second <= unlike < 1)

    def test_uneven_just_the_lead(self):
        self.look_at((4, 3), (4, 1), (1, 2))
        self.look_at((GREAT, GREAT - 1), (GREAT, 1), (GREAT - 2, GREAT))
        self.look_at((3, 2), (5, 2), (4, 15))

    def test_uneven_near_1(self):
        self.look_at((4, 3), (4, 1), NEAR)
        self.look_at((GREAT, GREAT - 1), (GREAT, 1), NEAR)
        self.look_at((GREAT, 2), (GREAT, 1), NEAR)
        self.look_at((GREAT, GREAT - 1), (GREAT, GREAT - 2), NEAR)
        self.look_at((GREAT, GREAT - 1), (GREAT - 1, GREAT - 2), SMALL)

    def test_refused(self):
        half = (1, 2)
        wrong = [((0, 0), (4, 1), half), ((4, 3), (0, 0), half), ((0, 0), (0, 0), half), ((4, 1), (4, 3), half),
                 ((4, 2), (2, 1), half), ((4, 2), (4, 0), half), ((4, 4), (4, 3), half), ((4, 3), (4, 1), (1, 3)),
                 ((4, 3), (4, 1), (GREAT, 2 * GREAT + 1)), ((4, 3), (4, 1), (1, 1)), ((4, 3), (4, 1), (3, 2)),
                 ((4, 3), (4, 1), (0, 1)), ((4, 3), (4, 1), (-1, 2)), ((4, 4), (4, 0), half), ((4, 2), (2, 1), (0, 1)),
                 ((GREAT, GREAT), (GREAT, 1), NEAR), ((GREAT, 1), (GREAT, 0), NEAR)]
        for one, other, unlike in wrong:
            with self.assertRaises(NoTable, msg=(one, other, unlike)):
                laid(one, other, unlike)

    def test_what_is_told_is_the_askers_own(self):
        told = laid((4, 3), (4, 1), (2, 3))
        told.clear()
        self.look_at((4, 3), (4, 1), (2, 3))


if __name__ == "__main__":
    unittest.main()
