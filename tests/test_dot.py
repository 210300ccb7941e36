"""Promise 5: dot, the sum of the four lanes' products, divided by 2^16 down."""

import math
import unittest
from fractions import Fraction

from fourfixed.vectors import dot

LEAST = -2**31
GREATEST = 2**31 - 1

EDGES = [LEAST, LEAST + 1, -65537, -32769, -1, 0, 1, 32767, 65536, GREATEST - 1, GREATEST]


def expected(a, b):
    return [math.floor(sum(Fraction(x * y, 2**16) for x, y in zip(a, b)))]


class Dot(unittest.TestCase):
    def test_ordinary(self):
        self.assertEqual(dot([65536, 131072, 196608, 262144], [1, 20, 300, 4000]), [16941])

    def test_all_four_lanes_count(self):
        for lane in range(4):
            a, b = [0, 0, 0, 0], [1, 2, 3, 4]
            a[lane] = 65536
            self.assertEqual(dot(a, b), [lane + 1])
            self.assertEqual(dot(b, a), [lane + 1])

    def test_each_lane_only_with_its_own(self):
        self.assertEqual(dot([65536, 0, 65536, 0], [0, 65536, 0, 65536]), [0])

    def test_zeros(self):
        self.assertEqual(dot([0, 0, 0, 0], [0, 0, 0, 0]), [0])
        self.assertEqual(dot([0, 0, 0, 0], [GREATEST, LEAST, GREATEST, LEAST]), [0])

    def test_signs(self):
        self.assertEqual(dot([-65536, 65536, -65536, 65536], [5, 6, -7, -80]), [-72])
        self.assertEqual(dot([-65536, 0, 0, 0], [65536, 0, 0, 0]), [-65536])

    def test_the_sum_goes_down_once(self):
        self.assertEqual(dot([1, 1, 1, 1], [-1, -1, -1, -1]), [-1])
        self.assertEqual(dot([32768, 32768, 0, 0], [1, 1, 0, 0]), [1])
        self.assertEqual(dot([16384, 16384, 16384, 16384], [1, 1, 1, 1]), [1])
        self.assertEqual(dot([-16384, -16384, -16384, -16384], [1, 1, 1, 1]), [-1])
        self.assertEqual(dot([1, 65535, 0, 0], [-1, 1, 0, 0]), [0])

    def test_sums_below_0_go_down(self):
        self.assertEqual(dot([-1, 0, 0, 0], [1, 0, 0, 0]), [-1])
        self.assertEqual(dot([-65536, 0, 0, 0], [1, 0, 0, 0]), [-1])
        self.assertEqual(dot([-65536, -1, 0, 0], [1, 1, 0, 0]), [-2])
        self.assertEqual(dot([-65535, -65535, -2, 0], [1, 1, 1, 0]), [-2])
        self.assertEqual(dot([-65535, -65535, -3, 0], [1, 1, 1, 0]), [-3])

    def test_sums_above_0_go_down_and_nothing_is_added(self):
        self.assertEqual(dot([65535, 0, 0, 0], [1, 0, 0, 0]), [0])
        self.assertEqual(dot([65535, 1, 0, 0], [1, 1, 0, 0]), [1])
        self.assertEqual(dot([65535, 65535, 1, 0], [1, 1, 1, 0]), [1])

    def test_largest_and_smallest_in_all_lanes(self):
        self.assertEqual(dot([GREATEST] * 4, [GREATEST] * 4), [281474976448512])
        self.assertEqual(dot([LEAST] * 4, [LEAST] * 4), [281474976710656])
        self.assertEqual(dot([LEAST] * 4, [GREATEST] * 4), [-281474976579584])
        self.assertEqual(dot([GREATEST] * 4, [LEAST] * 4), [-281474976579584])

    def test_not_held(self):
        self.assertEqual(dot([GREATEST, 65536, 0, 0], [65536, 1, 0, 0]), [2**31])
        self.assertEqual(dot([LEAST, -1, 0, 0], [65536, 1, 0, 0]), [-2**31 - 1])
        self.assertEqual(dot([LEAST, 0, 0, 0], [LEAST, 0, 0, 0]), [2**46])

    def test_products_are_not_held(self):
        self.assertEqual(dot([GREATEST, GREATEST, 65536, 0], [GREATEST, -GREATEST, 7, 0]), [7])
        self.assertEqual(dot([LEAST, LEAST, -65536, 0], [LEAST, GREATEST, 7, 0]), [32761])

    def test_exact_where_the_last_bits_decide(self):
        self.assertEqual(dot([GREATEST, GREATEST, GREATEST, 1], [GREATEST, GREATEST, GREATEST, -3]),
                         [3 * 2**46 - 3 * 2**16])
        self.assertEqual(dot([GREATEST, GREATEST, GREATEST, 1], [GREATEST, GREATEST, GREATEST, -4]),
                         [3 * 2**46 - 3 * 2**16 - 1])

    def test_edges_with_one_another(self):
        for x in EDGES:
            for y in EDGES:
                for z in EDGES:
                    a, b = [x, y, z, 3], [y, z, -1, x]
                    self.assertEqual(dot(a, b), expected(a, b), (a, b))


if __name__ == "__main__":
    unittest.main()
