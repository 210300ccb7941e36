"""Promise 2: product, lane by lane, with 2^15 added, divided by 2^16 down, held."""

import math
import unittest
from fractions import Fraction

from fourfixed.vectors import product

LEAST = -2**31
GREATEST = 2**31 - 1

EDGES = [LEAST, LEAST + 1, -2**30, -98304, -65537, -65536, -65535, -32769, -32768, -32767, -3, -1,
         0, 1, 3, 32767, 32768, 32769, 65535, 65536, 65537, 98304, 2**30, GREATEST - 1, GREATEST]


def expected_lane(x, y):
    exact = math.floor(Fraction(x * y + 2**15, 2**16))
    return max(LEAST, min(GREATEST, exact))


class Product(unittest.TestCase):
    def test_ordinary(self):
        self.assertEqual(product([65536, 131072, 32768, 98304], [65536, 196608, 32768, 131072]),
                         [0, 65536, 393216, 16384, 196608])

    def test_each_lane_by_itself(self):
        self.assertEqual(product([65536, 131072, 196608, 262144], [1, 20, 300, 4000]),
                         [0, 1, 40, 900, 16000])

    def test_by_one_nothing_changes(self):
        for x in EDGES:
            self.assertEqual(product([x, 65536, x, 65536], [65536, x, 65536, x]), [0, x, x, x, x])

    def test_zeros(self):
        self.assertEqual(product([0, GREATEST, 0, LEAST], [GREATEST, 0, LEAST, 0]), [0, 0, 0, 0, 0])

    def test_just_half_way_above_0(self):
        self.assertEqual(product([1, 3, 5, 32768], [32768, 32768, 32768, 7]), [0, 1, 2, 3, 4])

    def test_just_half_way_below_0(self):
        self.assertEqual(product([-1, -3, 5, -32768], [32768, 32768, -32768, 7]), [0, 0, -1, -2, -3])

    def test_just_beside_half_way(self):
        self.assertEqual(product([1, 1, -1, -1], [32767, 32769, 32767, 32769]), [0, 0, 1, 0, -1])

    def test_just_beside_half_way_further_out(self):
        self.assertEqual(product([1, 1, -1, -1], [98303, 98305, 98303, 98305]), [0, 1, 2, -1, -2])

    def test_signs(self):
        self.assertEqual(product([-131072, 131072, -131072, 131072], [196608, -196608, -196608, 196608]),
                         [0, -393216, -393216, 393216, 393216])

    def test_smallest_parts(self):
        self.assertEqual(product([1, -1, -1, 255], [1, 1, -1, 129]), [0, 0, 0, 0, 1])

    def test_largest_and_smallest_with_one_another(self):
        self.assertEqual(product([GREATEST, LEAST, GREATEST, LEAST], [GREATEST, LEAST, LEAST, GREATEST]),
                         [0, GREATEST, GREATEST, LEAST, LEAST])

    def test_held_above(self):
        self.assertEqual(product([2**30, -2**30, LEAST, 2**24], [2**17, -2**17, -65536, 2**24]),
                         [0, GREATEST, GREATEST, GREATEST, GREATEST])

    def test_held_below(self):
        self.assertEqual(product([2**30, -2**30, LEAST, 2**24], [-2**17 - 1, 2**17 + 1, 65537, -2**24]),
                         [0, LEAST, LEAST, LEAST, LEAST])

    def test_just_at_the_ends(self):
        self.assertEqual(product([GREATEST, LEAST, -2**30, LEAST + 1], [65536, 65536, 2**17, -65536]),
                         [0, GREATEST, LEAST, LEAST, GREATEST])

    def test_just_within_the_ends(self):
        self.assertEqual(product([GREATEST - 1, LEAST + 1, GREATEST, 65536], [65536, 65536, -65536, LEAST + 1]),
                         [0, GREATEST - 1, LEAST + 1, LEAST + 1, LEAST + 1])

    def test_the_half_that_is_added_goes_over_the_end(self):
        x, y = 2**15 * 65535, 65537
        self.assertEqual(x * y, 2**47 - 2**15)
        self.assertEqual(product([x, y, 65536, x], [y, x, 65536, 65536]), [0, GREATEST, GREATEST, 65536, x])

    def test_the_half_that_is_added_comes_back_to_the_end(self):
        x, y = -2**15 * 641, 6700417
        self.assertEqual(x * y, -2**47 - 2**15)
        self.assertEqual(product([x, y, 65536, x], [y, x, 65536, 65536]), [0, LEAST, LEAST, 65536, x])

    def test_one_held_lane_leaves_the_others(self):
        for lane in range(4):
            a = [65536, 65536, 65536, 65536]
            b = [1, -2, 3, -4]
            expected = [1, -2, 3, -4]
            a[lane] = b[lane] = LEAST
            expected[lane] = GREATEST
            self.assertEqual(product(a, b), [0] + expected)

    def test_edges_with_one_another(self):
        for x in EDGES:
            for y in EDGES:
                lane = expected_lane(x, y)
                self.assertEqual(product([x, y, 65536, x], [y, x, 9, 0]), [0, lane, lane, 9, 0], (x, y))


if __name__ == "__main__":
    unittest.main()
