"""Promise 7: length, the root of the sum of the squares of x, y and z, down."""

import itertools
import math
import unittest

from fourfixed.vectors import length

LEAST = -2**31
GREATEST = 2**31 - 1

EDGES = [LEAST, LEAST + 1, -2**30, -65537, -3, -1, 0, 1, 2, 46341, 65536, 2**30 + 1, GREATEST - 1, GREATEST]


class Length(unittest.TestCase):
    def test_zero(self):
        self.assertEqual(length([0, 0, 0, 0]), [0])

    def test_ordinary(self):
        self.assertEqual(length([131072, 196608, 393216, 0]), [458752])
        self.assertEqual(length([65536, 65536, 65536, 0]), [113511])

    def test_each_lane(self):
        self.assertEqual(length([7, 0, 0, 0]), [7])
        self.assertEqual(length([0, 7, 0, 0]), [7])
        self.assertEqual(length([0, 0, 7, 0]), [7])
        self.assertEqual(length([3, 4, 0, 0]), [5])
        self.assertEqual(length([3, 0, 4, 0]), [5])
        self.assertEqual(length([0, 3, 4, 0]), [5])

    def test_small_lanes(self):
        self.assertEqual(length([1, 0, 0, 0]), [1])
        self.assertEqual(length([1, 1, 0, 0]), [1])
        self.assertEqual(length([1, 1, 1, 0]), [1])
        self.assertEqual(length([2, 0, 0, 0]), [2])
        self.assertEqual(length([1, 2, 2, 0]), [3])
        self.assertEqual(length([1, 2, 3, 0]), [3])
        self.assertEqual(length([2, 2, 3, 0]), [4])

    def test_signs_change_nothing(self):
        for sx, sy, sz in itertools.product((1, -1), repeat=3):
            self.assertEqual(length([2 * sx, 3 * sy, 6 * sz, 0]), [7])

    def test_all_small_lanes(self):
        for x, y, z in itertools.product(range(-12, 13), repeat=3):
            self.assertEqual(length([x, y, z, 5]), [math.isqrt(x * x + y * y + z * z)], (x, y, z))

    def test_w_changes_nothing(self):
        for w in EDGES:
            self.assertEqual(length([2, 3, 6, w]), [7])
            self.assertEqual(length([0, 0, 0, w]), [0])

    def test_small_squares_and_beside(self):
        self.assertEqual(length([2, 2, 0, 0]), [2])  # 8
        self.assertEqual(length([2, 2, 1, 0]), [3])  # 9
        self.assertEqual(length([3, 1, 0, 0]), [3])  # 10
        self.assertEqual(length([4, 2, 2, 0]), [4])  # 24
        self.assertEqual(length([4, 3, 0, 0]), [5])  # 25
        self.assertEqual(length([5, 1, 0, 0]), [5])  # 26
        self.assertEqual(length([7, 1, 7, 0]), [9])  # 99
        self.assertEqual(length([8, 6, 0, 0]), [10])  # 100
        self.assertEqual(length([10, 1, 0, 0]), [10])  # 101

    def check_beside_a_square(self, lanes, root, beside):
        self.assertEqual(sum(x * x for x in lanes), root * root + beside)
        answer = root - 1 if beside < 0 else root
        self.assertEqual(length(lanes + [0]), [answer])
        self.assertEqual(length(lanes[::-1] + [0]), [answer])

    def test_middle_squares_and_beside(self):
        self.check_beside_a_square([2**16, 2**16, 2**15], 3 * 2**15, 0)
        self.check_beside_a_square([2**29, 2**15, 0], 2**29 + 1, -1)
        self.check_beside_a_square([2**30, 1, 0], 2**30, 1)
        self.check_beside_a_square([GREATEST, 1, 0], GREATEST, 1)

    def test_squares_above_2_to_62_and_beside(self):
        self.check_beside_a_square([LEAST, 0, 0], 2**31, 0)
        self.check_beside_a_square([LEAST, 1, 0], 2**31, 1)
        self.check_beside_a_square([LEAST, 65536, 0], 2**31 + 1, -1)
        self.check_beside_a_square([LEAST, 65536, 1], 2**31 + 1, 0)
        self.check_beside_a_square([2147483595, 481589, 516], 2**31 + 1, 1)
        self.check_beside_a_square([LEAST, LEAST, 2**30], 3 * 2**30, 0)

    def test_largest_squares_and_beside(self):
        self.check_beside_a_square([2147483641, 2147474941, 2145174211], 3718212878, -1)
        self.check_beside_a_square([2147476345, 2147483180, 2147482340], 3719545545, 0)
        self.check_beside_a_square([2147483644, 2147187756, 2144777305], 3717818036, 1)

    def test_largest_and_smallest(self):
        self.assertEqual(length([LEAST, LEAST, LEAST, 0]), [3719550786])
        self.assertEqual(length([LEAST, LEAST, LEAST, LEAST]), [3719550786])
        self.assertEqual(length([GREATEST, GREATEST, GREATEST, GREATEST]), [3719550785])
        self.assertEqual(length([LEAST, LEAST, 0, 0]), [3037000499])
        self.assertEqual(length([LEAST, GREATEST, 0, 0]), [3037000499])
        self.assertEqual(length([LEAST, 0, 0, 0]), [2147483648])
        self.assertEqual(length([0, 0, GREATEST, 0]), [2147483647])

    def test_edges_with_one_another(self):
        for x, y, z in itertools.product(EDGES, repeat=3):
            self.assertEqual(length([x, y, z, x]), [math.isqrt(x * x + y * y + z * z)], (x, y, z))


if __name__ == "__main__":
    unittest.main()
