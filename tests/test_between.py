"""Promise 4: between, lane by lane a and the difference b - a times t, divided by 2^16 down, together, held."""

import math
import unittest
from fractions import Fraction

from fourfixed.vectors import between

LEAST = -2**31
GREATEST = 2**31 - 1

EDGES = [LEAST, LEAST + 1, -2**30, -65537, -32769, -3, -1, 0, 1, 3, 32767, 65535, 2**30, GREATEST - 1, GREATEST]
PARTS = EDGES + [-131072, -98304, -65536, -65535, -32768, -32767, 32768, 32769, 65536, 65537, 98304, 131072]


def expected_lane(t, x, y):
    exact = x + math.floor(Fraction((y - x) * t, 2**16))
    return max(LEAST, min(GREATEST, exact))


class Between(unittest.TestCase):
    def test_ordinary(self):
        self.assertEqual(between(16384, [0, 65536, -65536, 10], [65536, 0, 65536, 50]),
                         [0, 16384, 49152, -32768, 20])

    def test_each_lane_by_itself(self):
        self.assertEqual(between(32768, [1, 20, 300, 4000], [3, 40, 500, 6000]), [0, 2, 30, 400, 5000])

    def test_t_of_0_is_a(self):
        for x in EDGES:
            for y in EDGES:
                self.assertEqual(between(0, [x, y, x, y], [y, x, y, x]), [0, x, y, x, y])

    def test_t_of_one_is_b(self):
        for x in EDGES:
            for y in EDGES:
                self.assertEqual(between(65536, [x, y, x, y], [y, x, y, x]), [0, y, x, y, x])

    def test_t_of_a_half(self):
        self.assertEqual(between(32768, [0, 10, -10, 65536], [10, 0, 10, -65536]), [0, 5, 5, 0, 0])

    def test_t_of_a_half_with_a_remainder_goes_down(self):
        self.assertEqual(between(32768, [0, 0, 1, -1], [1, -1, 0, 0]), [0, 0, -1, 0, -1])
        self.assertEqual(between(32768, [10, 10, 13, -10], [13, 7, 10, -13]), [0, 11, 8, 11, -12])

    def test_t_below_0(self):
        self.assertEqual(between(-65536, [0, 10, -10, 7], [10, 0, 10, 7]), [0, -10, 20, -30, 7])
        self.assertEqual(between(-32768, [0, 10, -10, 7], [10, 0, 10, 7]), [0, -5, 15, -20, 7])

    def test_t_above_one(self):
        self.assertEqual(between(131072, [0, 10, -10, 7], [10, 0, 10, 7]), [0, 20, -10, 30, 7])
        self.assertEqual(between(98304, [0, 10, -10, 7], [10, 0, 10, 7]), [0, 15, -5, 20, 7])

    def test_differences_below_0_go_down(self):
        self.assertEqual(between(1, [0, 1, 65536, 5], [-1, 0, 0, 4]), [0, -1, 0, 65535, 4])
        self.assertEqual(between(1, [0, 0, 0, 0], [-65535, -65536, -65537, -131073]), [0, -1, -1, -2, -3])
        self.assertEqual(between(65535, [0, 0, 0, 100], [-1, -2, -65536, 99]), [0, -1, -2, -65535, 99])

    def test_t_below_0_goes_down(self):
        self.assertEqual(between(-1, [0, 0, 0, 0], [1, -1, 65536, 65537]), [0, -1, 0, -1, -2])
        self.assertEqual(between(-1, [0, 0, 0, 0], [-65535, -65536, 0, 65535]), [0, 0, 1, 0, -1])

    def test_differences_above_0_go_down(self):
        self.assertEqual(between(1, [0, 0, 0, -9], [65535, 65536, 131071, -8]), [0, 0, 1, 1, -9])

    def test_differences_outside_of_a_numbers_range(self):
        self.assertEqual(between(32768, [LEAST, GREATEST, LEAST, GREATEST], [GREATEST, LEAST, GREATEST - 1, LEAST + 1]),
                         [0, -1, -1, -1, 0])
        self.assertEqual(between(65536, [LEAST, GREATEST, -2, 2**30], [GREATEST, LEAST, GREATEST, LEAST]),
                         [0, GREATEST, LEAST, GREATEST, LEAST])
        self.assertEqual(between(16384, [LEAST, GREATEST, 0, 0], [GREATEST, LEAST, 4, -4]),
                         [0, -1073741825, 1073741823, 1, -1])

    def test_parts_outside_of_a_numbers_range_with_a_whole_within(self):
        # The difference times t lies at 2^31 and above, or below -2^31, while the whole does not.
        self.assertEqual(between(131072, [LEAST, GREATEST, -2**30, 0], [-2**30, 2**30 - 2, 2**29 - 1, 0]),
                         [0, 0, -3, GREATEST - 1, 0])

    def test_held_above(self):
        self.assertEqual(between(131072, [0, GREATEST - 1, -1, LEAST], [2**30, GREATEST, GREATEST, GREATEST]),
                         [0, GREATEST, GREATEST, GREATEST, GREATEST])
        self.assertEqual(between(-65536, [0, GREATEST, 2**30, 1], [LEAST, 0, -1, LEAST]),
                         [0, GREATEST, GREATEST, GREATEST, GREATEST])

    def test_held_below(self):
        self.assertEqual(between(131072, [0, LEAST + 1, 1, GREATEST], [-2**30 - 1, LEAST, LEAST, LEAST]),
                         [0, LEAST, LEAST, LEAST, LEAST])
        self.assertEqual(between(-65536, [-2, LEAST, -2**30, -1], [GREATEST, 0, 1, GREATEST]),
                         [0, LEAST, LEAST, LEAST, LEAST])

    def test_just_at_the_ends_and_just_beyond(self):
        self.assertEqual(between(131072, [1, 0, 0, 2], [2**30, 2**30, -2**30, -2**30 + 1]),
                         [0, GREATEST, GREATEST, LEAST, LEAST])

    def test_just_within_the_ends(self):
        self.assertEqual(between(131072, [2, 0, 4, 0], [2**30, 2**30 - 1, -2**30 + 3, -2**30 + 1]),
                         [0, GREATEST - 1, GREATEST - 1, LEAST + 2, LEAST + 2])

    def test_down_goes_over_the_lower_end(self):
        # -2^31 and then a smallest part below 0: the whole is one below the end.
        self.assertEqual(between(-1, [LEAST, LEAST, LEAST + 1, 0], [LEAST + 1, LEAST, LEAST + 2, 0]),
                         [0, LEAST, LEAST, LEAST, 0])

    def test_largest_and_smallest_for_t(self):
        self.assertEqual(between(GREATEST, [0, 0, 0, 5], [1, -1, 2, 5]), [0, 32767, -32768, 65535, 5])
        self.assertEqual(between(LEAST, [0, 0, 0, 5], [1, -1, 2, 5]), [0, -32768, 32768, -65536, 5])

    def test_largest_and_smallest_for_all(self):
        ends = [LEAST, GREATEST, LEAST, GREATEST]
        other = [LEAST, GREATEST, GREATEST, LEAST]
        self.assertEqual(between(GREATEST, ends, other), [0, LEAST, GREATEST, GREATEST, LEAST])
        self.assertEqual(between(LEAST, ends, other), [0, LEAST, GREATEST, LEAST, GREATEST])

    def test_one_held_lane_leaves_the_others(self):
        for lane in range(4):
            a, b, expected = [1, -2, 3, -4], [2, -4, 6, -8], [3, -6, 9, -12]
            a[lane], b[lane], expected[lane] = LEAST, GREATEST, GREATEST
            self.assertEqual(between(131072, a, b), [0] + expected)

    def test_edges_with_one_another(self):
        for t in PARTS:
            for x in EDGES:
                for y in EDGES:
                    there, back = expected_lane(t, x, y), expected_lane(t, y, x)
                    self.assertEqual(between(t, [x, y, 9, x], [y, x, 9, x]), [0, there, back, 9, x], (t, x, y))


if __name__ == "__main__":
    unittest.main()
