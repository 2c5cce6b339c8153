import unittest
from fractions import Fraction
from itertools import permutations

from othersum.mixings import weights_of
from othersum.pushes import mixed
from othersum.reaches import level, reach
from samples import (GREAT, TURNED, assert_own, assert_ratio, assert_refused_as_leads, even_tables, fraction, share,
                     sums)

TABLES = even_tables(71, 120) + even_tables(72, 80, houses=2, most=3) + even_tables(73, 15, most=GREAT)


def shares(table, house):
    return [share(part[house]) for part in table]


def greatest_of(table, house):
    return max(one for one in shares(table, house) if one is not None)


def line_at(corners, d):
    """What stands at d on the line from corner to corner, the last share behind the last one."""
    points = [(fraction(one), fraction(two)) for one, two in corners]
    for (low, start), (high, end) in zip(points, points[1:]):
        if low <= d <= high:
            return start + (end - start) * (d - low) / (high - low)
    return points[-1][1] if d >= points[-1][0] else None


def grids(parts, whole):
    """Every way to lay whole things into parts."""
    if parts == 1:
        return [[whole]]
    return [[first] + rest for first in range(whole + 1) for rest in grids(parts - 1, whole - first)]


def uneven_by(ones, others):
    return sum(max(one - other, 0) for one, other in zip(ones, others))


class Reach(unittest.TestCase):
    def look_at(self, table, a, b):
        told = reach(table, a, b)
        self.assertIs(type(told), list)
        for corner in told:
            self.assertIs(type(corner), tuple)
            assert_ratio(self, corner[0], fraction(corner[0]))
            assert_ratio(self, corner[1], fraction(corner[1]))
        self.assertEqual(told[0][0], (0, 1))
        self.assertEqual(told[0][1], mixed(table, b, weights_of(table, a)))
        points = [(fraction(d), fraction(height)) for d, height in told]
        for one, other in zip(points, points[1:]):
            self.assertTrue(one[0] < other[0] and one[1] < other[1])
        slopes = [(other[1] - one[1]) / (other[0] - one[0]) for one, other in zip(points, points[1:])]
        # Falling slopes: no three corners in one line, and no weights go above it.
        self.assertEqual(slopes, sorted(set(slopes), reverse=True))
        self.assertEqual(points[-1][1], greatest_of(table, b))
        return told

    def test_plain(self):
        self.assertEqual(reach(TURNED, 0, 1), [((0, 1), (14, 55)), ((10, 11), (4, 5))])
        self.assertEqual(reach(TURNED, 1, 0), [((0, 1), (93, 110)), ((1, 11), (9, 10))])

    def test_several_corners(self):
        table = [((1, 1), (4, 4)), ((1, 1), (4, 1)), ((1, 1), (4, 2)), ((1, 1), (4, 0))]
        self.assertEqual(reach(table, 0, 1), [((0, 1), (7, 16)), ((1, 4), (11, 16)), ((1, 2), (7, 8)), ((3, 4), (1, 1))])

    def test_shares_that_are_alike_in_several_parts(self):
        table = [((1, 1), (4, 4)), ((1, 1), (4, 1)), ((1, 1), (8, 2)), ((1, 1), (2, 2))]
        self.assertEqual(reach(table, 0, 1), [((0, 1), (5, 8)), ((1, 2), (1, 1))])

    def test_one_corner_alone(self):
        self.assertEqual(reach([((3, 1), (4, 1)), ((1, 1), (8, 2))], 0, 1), [((0, 1), (1, 4))])
        self.assertEqual(reach([((3, 1), (4, 0))], 0, 1), [((0, 1), (0, 1))])

    def test_parts_in_which_neither_was_tried(self):
        table = [((0, 0), (0, 0)), ((10, 9), (100, 80)), ((0, 0), (0, 0)), ((100, 30), (10, 2))]
        self.assertEqual(reach(table, 0, 1), reach(TURNED, 0, 1))

    def test_many_tables(self):
        for table in TABLES:
            for a, b in permutations(range(len(table[0])), 2):
                self.look_at(table, a, b)

    def test_weights_of_small_cases(self):
        tables = [table for table in even_tables(74, 60, houses=2, most=2) if sum(part[0][0] for part in table) <= 9]
        self.assertGreater(len(tables), 20)
        met = 0
        for table in tables:
            corners = self.look_at(table, 0, 1)
            whole = sum(part[0][0] for part in table)
            ones = [Fraction(part[0][0], whole) for part in table]
            tried = [number for number, part in enumerate(table) if part[1][0] > 0]
            best = {}
            for grid in grids(len(tried), whole):
                others = [Fraction(0)] * len(table)
                for number, laid in zip(tried, grid):
                    others[number] = Fraction(laid, whole)
                d = uneven_by(ones, others)
                height = sum(others[number] * share(table[number][1]) for number in tried)
                self.assertLessEqual(height, line_at(corners, d))
                best[d] = max(best.get(d, height), height)
            # The weights of a lie on the grid, so the best ones up to the last corner do.
            for d, height in best.items():
                if d <= fraction(corners[-1][0]):
                    self.assertEqual(height, line_at(corners, d))
                    met += 1
        self.assertGreater(met, 60)

    def test_sixty_parts_of_thirty_figures(self):
        table = [((GREAT - part, 1), (GREAT - 7 * part, GREAT // (part + 2))) for part in range(60)]
        self.assertEqual(len(self.look_at(table, 0, 1)), 60)

    def test_refusals(self):
        assert_refused_as_leads(self, reach)

    def test_what_is_told_is_the_askers_own(self):
        assert_own(self, reach, list(TURNED), 0, 1)


class Level(unittest.TestCase):
    def look_at(self, table, a, b):
        told = level(table, a, b)
        self.assertIs(type(told), tuple)
        due = share(sums(part[a] for part in table))
        greatest = greatest_of(table, b)
        if greatest < due:
            self.assertEqual(told, ("never", shares(table, b).index(greatest)))
            return "never"
        word, m, weights, bar = told
        self.assertEqual(word, "can")
        assert_ratio(self, m, fraction(m))
        ones = [fraction(weight) for weight in weights_of(table, a)]
        self.assertIs(type(weights), list)
        for weight in weights:
            assert_ratio(self, weight, fraction(weight))
        others = [fraction(weight) for weight in weights]
        self.assertEqual(len(others), len(table))
        self.assertTrue(all(other >= 0 for other in others))
        self.assertEqual(sum(others), 1)
        self.assertEqual(uneven_by(ones, others), fraction(m))
        self.assertTrue(all(other == 0 for other, part in zip(others, table) if part[b][0] == 0))
        height = fraction(mixed(table, b, weights))
        start = fraction(mixed(table, b, weights_of(table, a)))
        self.assertGreaterEqual(height, due)
        if start >= due:
            self.assertEqual((m, weights, bar), ((0, 1), weights_of(table, a), None))
            return "at once"
        self.assertEqual(height, due)
        self.look_at_bar(table, b, ones, fraction(m), bar, due - start)
        corners = reach(table, a, b)
        self.assertEqual(line_at(corners, fraction(m)), due)
        self.assertLess(line_at(corners, fraction(m) * Fraction(999, 1000)), due)
        return "moved"

    def look_at_bar(self, table, b, ones, m, bar, missing):
        greatest = greatest_of(table, b)
        assert_ratio(self, bar, fraction(bar))
        bar = fraction(bar)
        self.assertLess(bar, greatest)
        below = [one * (bar - share(part[b])) for one, part in zip(ones, table)
                 if part[b][0] > 0 and share(part[b]) < bar]
        self.assertEqual(m * (greatest - bar) + sum(below), missing)

    def test_never(self):
        self.assertEqual(level([((4, 3), (4, 1)), ((4, 3), (4, 2)), ((4, 4), (4, 2))], 0, 1), ("never", 1))
        self.assertEqual(level([((0, 0), (0, 0)), ((4, 3), (4, 1))], 0, 1), ("never", 1))

    def test_at_once(self):
        self.assertEqual(level([((4, 3), (4, 3))], 0, 1), ("can", (0, 1), [(1, 1)], None))
        self.assertEqual(level(TURNED, 1, 0), ("can", (0, 1), [(10, 11), (1, 11)], None))

    def test_moved(self):
        told = level(TURNED, 0, 1)
        self.assertEqual(told[:2], ("can", (1, 6)))
        self.assertEqual(told[2], [(17, 66), (49, 66)])
        self.assertEqual(told[3], (1, 5))

    def test_just_the_greatest_share(self):
        table = [((1, 1), (4, 1)), ((1, 0), (4, 2))]
        told = level(table, 0, 1)
        self.assertEqual(told[:3], ("can", (1, 2), [(0, 1), (1, 1)]))
        self.assertEqual(self.look_at(table, 0, 1), "moved")

    def test_just_at_a_corner(self):
        table = [((1, 1), (4, 0)), ((1, 1), (4, 1)), ((1, 0), (4, 3)), ((1, 0), (4, 4))]
        self.assertEqual(reach(table, 0, 1)[0], ((0, 1), (1, 2)))
        self.assertEqual(self.look_at(table, 0, 1), "at once")
        table = [((1, 1), (4, 0)), ((1, 1), (4, 1)), ((1, 1), (4, 3)), ((1, 0), (4, 4))]
        self.assertEqual(level(table, 0, 1)[1], (1, 4))
        self.assertEqual(self.look_at(table, 0, 1), "moved")

    def test_many_tables(self):
        seen = {}
        for table in TABLES:
            for a, b in permutations(range(len(table[0])), 2):
                seen[self.look_at(table, a, b)] = True
        self.assertEqual(sorted(seen), ["at once", "moved", "never"])

    def test_no_less_uneven_weights_do_in_small_cases(self):
        for table in even_tables(75, 60, houses=2, most=2):
            whole = sum(part[0][0] for part in table)
            told = level(table, 0, 1)
            if whole > 9:
                continue
            ones = [Fraction(part[0][0], whole) for part in table]
            due = share(sums(part[0] for part in table))
            tried = [number for number, part in enumerate(table) if part[1][0] > 0]
            for grid in grids(len(tried), whole):
                others = [Fraction(0)] * len(table)
                for number, laid in zip(tried, grid):
                    others[number] = Fraction(laid, whole)
                if sum(others[number] * share(table[number][1]) for number in tried) >= due:
                    self.assertEqual(told[0], "can")
                    self.assertGreaterEqual(uneven_by(ones, others), fraction(told[1]))

    def test_sixty_parts_of_thirty_figures(self):
        table = [((GREAT - part, GREAT // 3), (GREAT - 7 * part, GREAT // (part + 2))) for part in range(60)]
        self.assertEqual(self.look_at(table, 0, 1), "moved")

    def test_refusals(self):
        assert_refused_as_leads(self, level)

    def test_what_is_told_is_the_askers_own(self):
        assert_own(self, level, list(TURNED), 0, 1)
        assert_own(self, level, list(TURNED), 1, 0)


if __name__ == "__main__":
    unittest.main()
