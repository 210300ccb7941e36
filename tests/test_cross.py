"""Promise 6: cross, three lanes each a difference of two products, divided by 2^16 down and held; w is 0."""

import math
import unittest
from fractions import Fraction

from fourfixed.vectors import cross

LEAST = -2**31
GREATEST = 2**31 - 1

X = [65536, 0, 0, 0]
Y = [0, 65536, 0, 0]
Z = [0, 0, 65536, 0]

EDGES = [LEAST, LEAST + 1, -65537, -1, 0, 1, 32769, GREATEST - 1, GREATEST]


def expected_lane(number):
    return max(LEAST, min(GREATEST, math.floor(Fraction(number, 2**16))))


def expected(a, b):
    (ax, ay, az, _), (bx, by, bz, _) = a, b
    return [0, expected_lane(ay * bz - az * by), expected_lane(az * bx - ax * bz), expected_lane(ax * by - ay * bx), 0]


class Cross(unittest.TestCase):
    def test_ordinary(self):
        # (2, 3, 4) and (5, 6, 7) give (-3, 6, -3).
        self.assertEqual(cross([131072, 196608, 262144, 0], [327680, 393216, 458752, 0]),
                         [0, -196608, 393216, -196608, 0])

    def test_each_product_in_its_place(self):
        self.assertEqual(cross([65536, 196608, 720896, 0], [2, 30, 500, 0]), [0, 1170, -478, 24, 0])
        self.assertEqual(cross([2, 30, 500, 0], [65536, 196608, 720896, 0]), [0, -1170, 478, -24, 0])

    def test_axes(self):
        self.assertEqual(cross(X, Y), [0] + Z)
        self.assertEqual(cross(Y, Z), [0] + X)
        self.assertEqual(cross(Z, X), [0] + Y)

    def test_axes_in_the_other_order(self):
        self.assertEqual(cross(Y, X), [0, 0, 0, -65536, 0])
        self.assertEqual(cross(Z, Y), [0, -65536, 0, 0, 0])
        self.assertEqual(cross(X, Z), [0, 0, -65536, 0, 0])

    def test_axes_with_themselves(self):
        for axis in (X, Y, Z):
            self.assertEqual(cross(axis, list(axis)), [0, 0, 0, 0, 0])

    def test_zeros(self):
        self.assertEqual(cross([0, 0, 0, 0], [LEAST, GREATEST, 7, 8]), [0, 0, 0, 0, 0])

    def test_w_is_0_whatever_was_handed_in(self):
        for w in EDGES:
            for v in EDGES:
                self.assertEqual(cross([131072, 196608, 262144, w], [327680, 393216, 458752, v]),
                                 [0, -196608, 393216, -196608, 0])

    def test_differences_below_0_go_down(self):
        self.assertEqual(cross([0, 0, 1, 0], [0, 1, 0, 0]), [0, -1, 0, 0, 0])
        self.assertEqual(cross([1, 0, 0, 0], [0, 0, 1, 0]), [0, 0, -1, 0, 0])
        self.assertEqual(cross([0, 1, 0, 0], [1, 0, 0, 0]), [0, 0, 0, -1, 0])
        self.assertEqual(cross([0, 65537, 0, 0], [0, 0, -1, 0]), [0, -2, 0, 0, 0])
        self.assertEqual(cross([0, 65536, 0, 0], [0, 0, -1, 0]), [0, -1, 0, 0, 0])
        self.assertEqual(cross([-65537, 1, 1, 0], [1, 1, 1, 0]), [0, 0, 1, -2, 0])

    def test_differences_above_0_go_down(self):
        self.assertEqual(cross([0, 65535, 0, 0], [0, 0, 1, 0]), [0, 0, 0, 0, 0])
        self.assertEqual(cross([0, 131071, 0, 0], [0, 0, 1, 0]), [0, 1, 0, 0, 0])

    def test_the_difference_goes_down_once(self):
        # Halves of the smallest number: together it is one whole, or none.
        self.assertEqual(cross([0, 32768, -32768, 0], [0, 1, 1, 0]), [0, 1, 0, 0, 0])
        self.assertEqual(cross([0, 32768, 32768, 0], [0, 1, 1, 0]), [0, 0, 0, 0, 0])
        self.assertEqual(cross([0, -32768, 32768, 0], [0, 1, 1, 0]), [0, -1, 0, 0, 0])

    def test_held_above(self):
        self.assertEqual(cross([0, GREATEST, 0, 0], [0, 0, 65537, 0]), [0, GREATEST, 0, 0, 0])
        self.assertEqual(cross([0, 0, LEAST, 0], [LEAST, 0, 0, 0]), [0, 0, GREATEST, 0, 0])
        self.assertEqual(cross([GREATEST, LEAST, 0, 0], [GREATEST, GREATEST, 0, 0]), [0, 0, 0, GREATEST, 0])

    def test_held_below(self):
        self.assertEqual(cross([0, LEAST, 0, 0], [0, 0, 65537, 0]), [0, LEAST, 0, 0, 0])
        self.assertEqual(cross([0, 0, LEAST, 0], [GREATEST, 0, 0, 0]), [0, 0, LEAST, 0, 0])
        self.assertEqual(cross([GREATEST, GREATEST, 0, 0], [GREATEST, LEAST, 0, 0]), [0, 0, 0, LEAST, 0])

    def test_just_at_the_ends_and_just_beyond(self):
        self.assertEqual(cross([0, GREATEST, 0, 0], [0, 0, 65536, 0]), [0, GREATEST, 0, 0, 0])
        self.assertEqual(cross([0, LEAST, 0, 0], [0, 0, 65536, 0]), [0, LEAST, 0, 0, 0])
        self.assertEqual(cross([0, LEAST, 0, 0], [0, 0, -65536, 0]), [0, GREATEST, 0, 0, 0])
        self.assertEqual(cross([0, LEAST, 1, 0], [0, 1, 65536, 0]), [0, LEAST, 0, 0, 0])

    def test_just_within_the_ends(self):
        self.assertEqual(cross([0, GREATEST, 1, 0], [0, 1, 65536, 0]), [0, GREATEST - 1, 0, 0, 0])
        self.assertEqual(cross([0, LEAST, 65536, 0], [0, -1, 65536, 0]), [0, LEAST + 1, 0, 0, 0])

    def test_products_are_not_held(self):
        self.assertEqual(cross([GREATEST, GREATEST, GREATEST, 0], [GREATEST, GREATEST, GREATEST, 0]), [0, 0, 0, 0, 0])
        self.assertEqual(cross([0, GREATEST, 2**30, 0], [0, 2**30, 2**29, 0]), [0, -8192, 0, 0, 0])

    def test_exact_where_the_last_bits_decide(self):
        self.assertEqual(cross([0, 2**30, 1, 0], [0, 1, 2**16, 0]), [0, 2**30 - 1, 0, 0, 0])
        # The products are near -2^62, their difference is -2^31 + 1.
        self.assertEqual(cross([0, GREATEST, LEAST + 1, 0], [0, GREATEST, LEAST, 0]), [0, -32768, 0, 0, 0])

    def test_largest_and_smallest_with_one_another(self):
        self.assertEqual(cross([GREATEST, LEAST, GREATEST, LEAST], [LEAST, GREATEST, LEAST, GREATEST]),
                         [0, 65535, 0, -65536, 0])
        self.assertEqual(cross([LEAST, GREATEST, GREATEST, 0], [GREATEST, GREATEST, LEAST, 0]),
                         [0, LEAST, -65536, LEAST, 0])
        self.assertEqual(cross([LEAST, LEAST, GREATEST, 0], [GREATEST, LEAST, LEAST, 0]),
                         [0, GREATEST, -65536, GREATEST, 0])
        self.assertEqual(cross([LEAST, LEAST, LEAST, LEAST], [LEAST, LEAST, LEAST, LEAST]), [0, 0, 0, 0, 0])

    def test_edges_with_one_another(self):
        for x in EDGES:
            for y in EDGES:
                for z in EDGES:
                    a, b = [x, y, z, 5], [y, z, 7, x]
                    self.assertEqual(cross(a, b), expected(a, b), (a, b))


if __name__ == "__main__":
    unittest.main()
