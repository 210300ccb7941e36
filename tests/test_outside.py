"""Promise 10: outside, the sum of 1 if x < -w, 2 if x > w, 4 if y < -w, 8 if y > w, 16 if z < -w, 32 if z > w."""

import itertools
import unittest

from fourfixed.vectors import outside

LEAST = -2**31
GREATEST = 2**31 - 1

EDGES = [LEAST, LEAST + 1, -65537, -65536, -65535, -1, 0, 1, 65535, 65536, 65537, GREATEST - 1, GREATEST]


def expected(p):
    x, y, z, w = p
    conditions = [x < -w, x > w, y < -w, y > w, z < -w, z > w]
    return [sum(2**place for place, holds in enumerate(conditions) if holds)]


class Outside(unittest.TestCase):
    def test_within(self):
        self.assertEqual(outside([0, 0, 0, 65536]), [0])
        self.assertEqual(outside([32768, -32768, 1, 65536]), [0])

    def test_each_condition_alone(self):
        self.assertEqual(outside([-65537, 0, 0, 65536]), [1])
        self.assertEqual(outside([65537, 0, 0, 65536]), [2])
        self.assertEqual(outside([0, -65537, 0, 65536]), [4])
        self.assertEqual(outside([0, 65537, 0, 65536]), [8])
        self.assertEqual(outside([0, 0, -65537, 65536]), [16])
        self.assertEqual(outside([0, 0, 65537, 65536]), [32])

    def test_at_just_the_bounds(self):
        for lane in range(3):
            for number in (65536, -65536):
                p = [0, 0, 0, 65536]
                p[lane] = number
                self.assertEqual(outside(p), [0])
        self.assertEqual(outside([65536, -65536, 65536, 65536]), [0])
        self.assertEqual(outside([-65536, 65536, -65536, 65536]), [0])

    def test_several_together(self):
        self.assertEqual(outside([-70000, -70000, -70000, 65536]), [21])
        self.assertEqual(outside([70000, 70000, 70000, 65536]), [42])
        self.assertEqual(outside([-70000, 70000, 0, 65536]), [9])
        self.assertEqual(outside([70000, 0, -70000, 65536]), [18])
        self.assertEqual(outside([0, -70000, 70000, 65536]), [36])

    def test_w_of_0(self):
        self.assertEqual(outside([0, 0, 0, 0]), [0])
        self.assertEqual(outside([1, 1, 1, 0]), [42])
        self.assertEqual(outside([-1, -1, -1, 0]), [21])
        self.assertEqual(outside([-1, 0, 1, 0]), [33])

    def test_w_below_0_where_both_conditions_hold(self):
        self.assertEqual(outside([0, 0, 0, -1]), [63])
        self.assertEqual(outside([0, 65536, -65536, -65536]), [3 + 8 + 16])
        self.assertEqual(outside([65535, 65537, 0, -65536]), [3 + 8 + 48])
        self.assertEqual(outside([-65535, -65537, 0, -65536]), [3 + 4 + 48])

    def test_w_below_0_at_just_the_bounds(self):
        self.assertEqual(outside([1, 1, 1, -1]), [42])
        self.assertEqual(outside([-1, -1, -1, -1]), [21])

    def test_smallest_w(self):
        # -w is 2147483648 then, above each number: it is not held.
        self.assertEqual(outside([GREATEST, LEAST + 1, 0, LEAST]), [63])
        self.assertEqual(outside([LEAST, LEAST, LEAST, LEAST]), [21])
        self.assertEqual(outside([GREATEST, GREATEST, GREATEST, LEAST]), [63])

    def test_smallest_w_but_one(self):
        self.assertEqual(outside([GREATEST, GREATEST - 1, LEAST + 1, LEAST + 1]), [2 + 12 + 16])

    def test_largest_w(self):
        self.assertEqual(outside([GREATEST, GREATEST, GREATEST, GREATEST]), [0])
        self.assertEqual(outside([LEAST, LEAST, LEAST, GREATEST]), [21])
        self.assertEqual(outside([LEAST + 1, LEAST, GREATEST, GREATEST]), [4])

    def test_edges_with_one_another(self):
        for p in itertools.product(EDGES, repeat=4):
            self.assertEqual(outside(list(p)), expected(p), p)


if __name__ == "__main__":
    unittest.main()
