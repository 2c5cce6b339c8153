import unittest
from itertools import product

from othersum.errors import NoTable
from othersum.partings import parted
from othersum.turnings import says, sums_of, turning
from samples import GREAT, assert_table


class Parted(unittest.TestCase):
    def look_at(self, one, other, many):
        told = parted(one, other, many)
        enough = other[1] >= many and one[0] - one[1] >= many
        if not enough:
            self.assertIsNone(told)
            return False
        assert_table(self, told, 2)
        self.assertEqual(len(told), many)
        self.assertEqual(sums_of(told), (one, other))
        self.assertEqual(says(told, 0, 1), [-1] * many)
        return True

    def test_every_small_one(self):
        counts = [(tried, well) for tried in range(7) for well in range(tried + 1)]
        told = {}
        for one, other in product(counts, repeat=2):
            for many in range(2, 9):
                told.setdefault(self.look_at(one, other, many), []).append((one, other, many))
        self.assertGreater(len(told[True]), 300)
        self.assertGreater(len(told[False]), 300)

    def test_two_and_eight_parts(self):
        self.assertTrue(self.look_at((10, 8), (10, 2), 2))
        self.assertFalse(self.look_at((10, 9), (10, 2), 2))
        self.assertFalse(self.look_at((10, 8), (10, 1), 2))
        self.assertTrue(self.look_at((20, 12), (20, 8), 8))
        self.assertFalse(self.look_at((20, 13), (20, 8), 8))
        self.assertFalse(self.look_at((20, 12), (20, 7), 8))
        self.assertFalse(self.look_at((0, 0), (0, 0), 2))

    def test_whatever_the_whole_says(self):
        for one, other, due in (((100, 90), (100, 10), ("turned", -1, 1)), ((50, 25), (50, 25), ("turned", -1, 0)),
                                ((100, 10), (100, 90), ("kept", -1))):
            for many in range(2, 9):
                self.assertTrue(self.look_at(one, other, many))
                self.assertEqual(turning(parted(one, other, many), 0, 1), due)

    def test_no_wells_of_one_or_ills_of_other(self):
        self.assertTrue(self.look_at((8, 0), (8, 8), 8))
        self.assertTrue(self.look_at((9, 1), (8, 8), 8))
        self.assertTrue(self.look_at((8, 0), (9, 8), 8))

    def test_thirty_figures(self):
        for many in range(2, 9):
            self.assertTrue(self.look_at((GREAT, GREAT - many), (GREAT, many), many))
            self.assertTrue(self.look_at((GREAT, GREAT // 2), (GREAT - 1, GREAT // 3), many))
            self.assertTrue(self.look_at((GREAT, 0), (GREAT, GREAT), many))
            self.assertFalse(self.look_at((GREAT, GREAT - many + 1), (GREAT, GREAT), many))
            self.assertFalse(self.look_at((GREAT, 0), (GREAT, many - 1), many))

    def test_other_numbers_of_parts(self):
        for many in (1, 9, 0, -1, -2, 10, GREAT, -GREAT, True, False):
            for one, other in (((100, 50), (100, 50)), ((0, 0), (0, 0)), ((1, 1), (1, 0))):
                with self.assertRaises(NoTable):
                    parted(one, other, many)

    def test_what_is_told_is_the_askers_own(self):
        parted((10, 5), (10, 5), 3).clear()
        self.assertTrue(self.look_at((10, 5), (10, 5), 3))


if __name__ == "__main__":
    unittest.main()
