"""Promise 8: unit, x, y and z times 2^16 divided by the length, towards 0; w stays. Where the length is 0 it's a."""

import itertools
import math
import unittest
from fractions import Fraction

from fourfixed.vectors import unit

LEAST = -2**31
GREATEST = 2**31 - 1

EDGES = [LEAST, LEAST + 1, -2**30, -65537, -7, -1, 0, 1, 3, 32769, 65536, GREATEST - 1, GREATEST]


def expected(a):
    size = math.isqrt(sum(x * x for x in a[:3]))
    if size == 0:
        return [0] + a
    return [0] + [math.trunc(Fraction(x * 2**16, size)) for x in a[:3]] + a[3:]


class Unit(unittest.TestCase):
    def test_ordinary(self):
        self.assertEqual(unit([65536, 131072, 131072, 65536]), [0, 21845, 43690, 43690, 65536])

    def test_each_lane(self):
        self.assertEqual(unit([196608, 0, 0, 5]), [0, 65536, 0, 0, 5])
        self.assertEqual(unit([0, 196608, 0, 5]), [0, 0, 65536, 0, 5])
        self.assertEqual(unit([0, 0, 196608, 5]), [0, 0, 0, 65536, 5])
        self.assertEqual(unit([-196608, 0, 0, 5]), [0, -65536, 0, 0, 5])
        self.assertEqual(unit([0, -196608, 0, 5]), [0, 0, -65536, 0, 5])
        self.assertEqual(unit([0, 0, -196608, 5]), [0, 0, 0, -65536, 5])

    def test_without_a_remainder(self):
        self.assertEqual(unit([0, 7, 0, 0]), [0, 0, 65536, 0, 0])
        self.assertEqual(unit([8, 0, 0, 1]), [0, 65536, 0, 0, 1])
        # The root of 1 + 4 + 16 is 4 down, so that each part is whole.
        self.assertEqual(unit([1, 2, 4, 0]), [0, 16384, 32768, 65536, 0])
        self.assertEqual(unit([-1, -2, -4, 0]), [0, -16384, -32768, -65536, 0])

    def test_with_a_remainder_towards_0(self):
        self.assertEqual(unit([3, 4, 0, 0]), [0, 39321, 52428, 0, 0])
        self.assertEqual(unit([-3, -4, 0, 0]), [0, -39321, -52428, 0, 0])
        self.assertEqual(unit([2, -3, 6, 0]), [0, 18724, -28086, 56173, 0])
        self.assertEqual(unit([-2, 3, -6, 0]), [0, -18724, 28086, -56173, 0])

    def test_the_length_is_taken_down_first(self):
        self.assertEqual(unit([1, 1, 1, 0]), [0, 65536, 65536, 65536, 0])
        self.assertEqual(unit([-1, 1, 0, 0]), [0, -65536, 65536, 0, 0])
        self.assertEqual(unit([1, 2, 3, 0]), [0, 21845, 43690, 65536, 0])

    def test_small_lanes(self):
        self.assertEqual(unit([1, 0, 0, 0]), [0, 65536, 0, 0, 0])
        self.assertEqual(unit([0, -1, 0, 0]), [0, 0, -65536, 0, 0])
        self.assertEqual(unit([0, 0, 1, -1]), [0, 0, 0, 65536, -1])
        self.assertEqual(unit([2, 0, 1, 0]), [0, 65536, 0, 32768, 0])

    def test_parts_smaller_than_the_smallest_number_are_0(self):
        self.assertEqual(unit([1, -1, GREATEST, 0]), [0, 0, 0, 65536, 0])
        self.assertEqual(unit([32767, -32767, GREATEST, 0]), [0, 0, 0, 65536, 0])
        self.assertEqual(unit([32768, -32768, GREATEST, 0]), [0, 1, -1, 65536, 0])

    def test_length_of_0(self):
        for w in [0, 1, -1, 65536, -65536, GREATEST, LEAST]:
            self.assertEqual(unit([0, 0, 0, w]), [0, 0, 0, 0, w])

    def test_length_of_0_answers_a_list_of_its_own(self):
        for w in [0, 5, -5]:
            a = [0, 0, 0, w]
            answer = unit(a)
            answer[1:] = [9, 9, 9, 9]
            self.assertEqual(a, [0, 0, 0, w])
            self.assertEqual(unit(a), [0, 0, 0, 0, w])

    def test_w_stays_and_changes_nothing(self):
        for w in EDGES:
            self.assertEqual(unit([3, -4, 0, w]), [0, 39321, -52428, 0, w])

    def test_largest_and_smallest(self):
        self.assertEqual(unit([LEAST, LEAST, LEAST, LEAST]), [0, -37837, -37837, -37837, LEAST])
        self.assertEqual(unit([GREATEST, GREATEST, GREATEST, GREATEST]), [0, 37837, 37837, 37837, GREATEST])
        self.assertEqual(unit([LEAST, GREATEST, 0, 0]), [0, -46340, 46340, 0, 0])
        self.assertEqual(unit([LEAST, 0, 0, 0]), [0, -65536, 0, 0, 0])
        self.assertEqual(unit([LEAST, 1, -1, 7]), [0, -65536, 0, 0, 7])
        self.assertEqual(unit([0, GREATEST, 0, LEAST]), [0, 0, 65536, 0, LEAST])

    def test_small_lanes_with_one_another(self):
        for x, y, z in itertools.product(range(-7, 8), repeat=3):
            a = [x, y, z, x - y]
            self.assertEqual(unit(a), expected(a), a)

    def test_edges_with_one_another(self):
        for x, y, z in itertools.product(EDGES, repeat=3):
            a = [x, y, z, x]
            self.assertEqual(unit(a), expected(a), a)


if __name__ == "__main__":
    unittest.main()
