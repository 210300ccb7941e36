"""Promise 3: quotient, lane by lane a times 2^16 divided by b, towards 0, held; and what it is where b is 0."""

import math
import unittest
from fractions import Fraction

from fourfixed.vectors import quotient

LEAST = -2**31
GREATEST = 2**31 - 1

EDGES = [LEAST, LEAST + 1, -2**30, -98304, -65537, -65536, -65535, -32769, -32768, -32767, -7, -3, -2, -1,
         0, 1, 2, 3, 7, 32767, 32768, 32769, 65535, 65536, 65537, 98304, 2**30, GREATEST - 1, GREATEST]


def expected_lane(x, y):
    if y == 0:
        return {1: GREATEST, -1: LEAST, 0: 0}[(x > 0) - (x < 0)]
    return max(LEAST, min(GREATEST, math.trunc(Fraction(x * 2**16, y))))


class Quotient(unittest.TestCase):
    def test_ordinary(self):
        self.assertEqual(quotient([65536, 393216, 32768, 98304], [65536, 131072, 131072, 32768]),
                         [0, 65536, 196608, 16384, 196608])

    def test_each_lane_by_itself(self):
        self.assertEqual(quotient([1, 20, 300, 4000], [65536, 131072, 196608, 262144]), [0, 1, 10, 100, 1000])

    def test_a_is_divided_by_b(self):
        self.assertEqual(quotient([131072, 65536, 131072, 65536], [65536, 131072, 65536, 131072]),
                         [0, 131072, 32768, 131072, 32768])

    def test_by_one_nothing_changes(self):
        for x in EDGES:
            self.assertEqual(quotient([x, x, x, x], [65536, 65536, 65536, 65536]), [0, x, x, x, x])

    def test_by_itself_one(self):
        for x in EDGES:
            if x != 0:
                self.assertEqual(quotient([x, x, x, x], [x, x, x, x]), [0, 65536, 65536, 65536, 65536])

    def test_signs_without_a_remainder(self):
        self.assertEqual(quotient([6, 6, -6, -6], [3, -3, 3, -3]), [0, 131072, -131072, -131072, 131072])

    def test_signs_with_a_remainder_towards_0(self):
        self.assertEqual(quotient([1, 1, -1, -1], [3, -3, 3, -3]), [0, 21845, -21845, -21845, 21845])
        self.assertEqual(quotient([2, 2, -2, -2], [3, -3, 3, -3]), [0, 43690, -43690, -43690, 43690])

    def test_parts_smaller_than_the_smallest_number_are_0(self):
        self.assertEqual(quotient([1, 1, -1, -1], [65537, -65537, 65537, -65537]), [0, 0, 0, 0, 0])
        self.assertEqual(quotient([1, 32767, -1, -32767], [GREATEST, LEAST, GREATEST, GREATEST]), [0, 0, 0, 0, 0])

    def test_just_the_smallest_number(self):
        self.assertEqual(quotient([1, 1, -1, -1], [65536, -65536, 65536, -65536]), [0, 1, -1, -1, 1])
        self.assertEqual(quotient([32768, 32768, -32768, -32768], [GREATEST, LEAST, GREATEST, LEAST]),
                         [0, 1, -1, -1, 1])

    def test_zeros_divided(self):
        self.assertEqual(quotient([0, 0, 0, 0], [1, -1, GREATEST, LEAST]), [0, 0, 0, 0, 0])

    def test_by_0(self):
        self.assertEqual(quotient([1, -1, 0, 65536], [0, 0, 0, 0]), [0, GREATEST, LEAST, 0, GREATEST])
        self.assertEqual(quotient([GREATEST, LEAST, 0, -65536], [0, 0, 0, 0]), [0, GREATEST, LEAST, 0, LEAST])

    def test_some_lanes_by_0_and_others_not(self):
        self.assertEqual(quotient([5, 65536, -5, 65536], [0, 131072, 0, -131072]),
                         [0, GREATEST, 32768, LEAST, -32768])
        self.assertEqual(quotient([65536, 0, 65536, 7], [65536, 0, -65536, 0]),
                         [0, 65536, 0, -65536, GREATEST])

    def test_by_0_in_one_lane_leaves_the_others(self):
        for lane in range(4):
            for x, answer in [(9, GREATEST), (-9, LEAST), (0, 0)]:
                a, b, expected = [1, 2, 3, 4], [65536] * 4, [1, 2, 3, 4]
                a[lane], b[lane], expected[lane] = x, 0, answer
                self.assertEqual(quotient(a, b), [0] + expected)

    def test_held_above(self):
        self.assertEqual(quotient([GREATEST, LEAST, 32768, -32769], [65535, -65535, 1, -1]),
                         [0, GREATEST, GREATEST, GREATEST, GREATEST])

    def test_held_below(self):
        self.assertEqual(quotient([GREATEST, LEAST, 32769, -32769], [-65535, 65535, -1, 1]),
                         [0, LEAST, LEAST, LEAST, LEAST])

    def test_just_at_the_ends(self):
        self.assertEqual(quotient([GREATEST, LEAST, -32768, 32768], [65536, 65536, 1, -1]),
                         [0, GREATEST, LEAST, LEAST, LEAST])

    def test_just_beyond_the_ends(self):
        self.assertEqual(quotient([LEAST, 32768, -32768, 65536], [-65536, 1, -1, 2]),
                         [0, GREATEST, GREATEST, GREATEST, GREATEST])

    def test_just_within_the_ends(self):
        self.assertEqual(quotient([GREATEST - 1, LEAST + 1, GREATEST, LEAST + 1], [65536, 65536, -65536, -65536]),
                         [0, GREATEST - 1, LEAST + 1, LEAST + 1, GREATEST])
        self.assertEqual(quotient([32767, -32767, 32767, -32767], [1, 1, -1, -1]),
                         [0, 2147418112, -2147418112, -2147418112, 2147418112])

    def test_largest_and_smallest_with_one_another(self):
        self.assertEqual(quotient([GREATEST, LEAST, GREATEST, LEAST], [GREATEST, LEAST, LEAST, GREATEST]),
                         [0, 65536, 65536, -65535, -65536])

    def test_largest_and_smallest_by_the_smallest_parts(self):
        self.assertEqual(quotient([GREATEST, LEAST, GREATEST, LEAST], [1, 1, -1, -1]),
                         [0, GREATEST, LEAST, LEAST, GREATEST])

    def test_one_held_lane_leaves_the_others(self):
        for lane in range(4):
            a, b, expected = [1, -2, 3, -4], [65536] * 4, [1, -2, 3, -4]
            a[lane], b[lane], expected[lane] = LEAST, 1, LEAST
            self.assertEqual(quotient(a, b), [0] + expected)

    def test_edges_with_one_another(self):
        for x in EDGES:
            for y in EDGES:
                self.assertEqual(quotient([x, y, 9, x], [y, x, 65536, 65536]),
                                 [0, expected_lane(x, y), expected_lane(y, x), 9, x], (x, y))


if __name__ == "__main__":
    unittest.main()
