"""Promise 1: sum and difference, lane by lane, held."""

import unittest

from fourfixed.vectors import difference, sum_of

LEAST = -2**31
GREATEST = 2**31 - 1

EDGES = [LEAST, LEAST + 1, -2**30, -65536, -1, 0, 1, 65536, 2**30, GREATEST - 1, GREATEST]


def clamp(number):
    return max(LEAST, min(GREATEST, number))


class SumOf(unittest.TestCase):
    def test_ordinary(self):
        self.assertEqual(sum_of([65536, 131072, 1, 7], [32768, 65536, 2, 5]), [0, 98304, 196608, 3, 12])

    def test_each_lane_by_itself(self):
        self.assertEqual(sum_of([1, 20, 300, 4000], [50000, 600000, 7000000, 80000000]),
                         [0, 50001, 600020, 7000300, 80004000])

    def test_negative_lanes(self):
        self.assertEqual(sum_of([-1, -20, 300, 4000], [-5, 6, -700, -8]), [0, -6, -14, -400, 3992])

    def test_zeros(self):
        self.assertEqual(sum_of([0, 0, 0, 0], [0, 0, 0, 0]), [0, 0, 0, 0, 0])

    def test_held_above(self):
        self.assertEqual(sum_of([GREATEST, GREATEST, 2**30, 1], [1, GREATEST, 2**30, GREATEST]),
                         [0, GREATEST, GREATEST, GREATEST, GREATEST])

    def test_held_below(self):
        self.assertEqual(sum_of([LEAST, LEAST, -2**30 - 1, -1], [-1, LEAST, -2**30, LEAST]),
                         [0, LEAST, LEAST, LEAST, LEAST])

    def test_just_at_the_ends(self):
        self.assertEqual(sum_of([GREATEST, GREATEST - 1, LEAST, LEAST + 1], [0, 1, 0, -1]),
                         [0, GREATEST, GREATEST, LEAST, LEAST])

    def test_just_within_the_ends(self):
        self.assertEqual(sum_of([GREATEST, GREATEST - 2, LEAST, LEAST + 2], [-1, 1, 1, -1]),
                         [0, GREATEST - 1, GREATEST - 1, LEAST + 1, LEAST + 1])

    def test_one_held_lane_leaves_the_others(self):
        for lane in range(4):
            a = [10, 20, 30, 40]
            b = [1, 2, 3, 4]
            expected = [11, 22, 33, 44]
            a[lane] = b[lane] = expected[lane] = GREATEST
            self.assertEqual(sum_of(a, b), [0] + expected)

    def test_edges_with_one_another(self):
        for x in EDGES:
            for y in EDGES:
                self.assertEqual(sum_of([x, y, 3, x], [y, x, 4, 0]),
                                 [0, clamp(x + y), clamp(x + y), 7, x], (x, y))


class Difference(unittest.TestCase):
    def test_ordinary(self):
        self.assertEqual(difference([65536, 131072, 1, 7], [32768, 65536, 2, 5]), [0, 32768, 65536, -1, 2])

    def test_each_lane_by_itself(self):
        self.assertEqual(difference([50001, 600020, 7000300, 80004000], [1, 20, 300, 4000]),
                         [0, 50000, 600000, 7000000, 80000000])

    def test_negative_lanes(self):
        self.assertEqual(difference([-1, -20, 300, -4000], [-5, 6, -700, -8000]), [0, 4, -26, 1000, 4000])

    def test_b_is_taken_from_a(self):
        self.assertEqual(difference([0, 0, 0, 0], [1, -2, 3, -4]), [0, -1, 2, -3, 4])

    def test_held_above(self):
        self.assertEqual(difference([GREATEST, GREATEST, 2**30, 0], [-1, LEAST, -2**30, LEAST]),
                         [0, GREATEST, GREATEST, GREATEST, GREATEST])

    def test_held_below(self):
        self.assertEqual(difference([LEAST, LEAST, -2**30, -2], [1, GREATEST, 2**30 + 1, GREATEST]),
                         [0, LEAST, LEAST, LEAST, LEAST])

    def test_just_at_the_ends(self):
        self.assertEqual(difference([GREATEST, -1, LEAST, -1], [0, LEAST, 0, GREATEST]),
                         [0, GREATEST, GREATEST, LEAST, LEAST])

    def test_just_within_the_ends(self):
        self.assertEqual(difference([GREATEST, -2, LEAST, 0], [1, LEAST, -1, GREATEST]),
                         [0, GREATEST - 1, GREATEST - 1, LEAST + 1, LEAST + 1])

    def test_one_held_lane_leaves_the_others(self):
        for lane in range(4):
            a = [10, 20, 30, 40]
            b = [1, 2, 3, 4]
            expected = [9, 18, 27, 36]
            a[lane] = expected[lane] = LEAST
            b[lane] = GREATEST
            self.assertEqual(difference(a, b), [0] + expected)

    def test_edges_with_one_another(self):
        for x in EDGES:
            for y in EDGES:
                self.assertEqual(difference([x, y, 3, x], [y, x, 4, 0]),
                                 [0, clamp(x - y), clamp(y - x), -1, x], (x, y))


if __name__ == "__main__":
    unittest.main()
