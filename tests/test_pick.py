"""Promise 9: pick, lane i is, by what which's lane i leaves modulo 8, a's lane k, or from 4 on b's lane k - 4."""

import itertools
import unittest

from fourfixed.vectors import pick

LEAST = -2**31
GREATEST = 2**31 - 1

A = [10, -11, 12, -13]
B = [20, -21, 22, -23]
ALL = [10, -11, 12, -13, 20, -21, 22, -23]


class Pick(unittest.TestCase):
    def test_ordinary(self):
        self.assertEqual(pick(A, B, [3, 4, 0, 7]), [0, -13, 20, 10, -23])

    def test_all_of_a(self):
        self.assertEqual(pick(A, B, [0, 1, 2, 3]), [0] + A)

    def test_all_of_b(self):
        self.assertEqual(pick(A, B, [4, 5, 6, 7]), [0] + B)

    def test_each_number_in_each_lane(self):
        for lane in range(4):
            for k in range(8):
                which, expected = [0, 1, 2, 3], list(A)
                which[lane], expected[lane] = k, ALL[k]
                self.assertEqual(pick(A, B, which), [0] + expected, (lane, k))

    def test_the_same_lane_more_than_once(self):
        for k in range(8):
            self.assertEqual(pick(A, B, [k, k, k, k]), [0] + [ALL[k]] * 4)
        self.assertEqual(pick(A, B, [5, 1, 5, 1]), [0, -21, -11, -21, -11])

    def test_8_and_more(self):
        self.assertEqual(pick(A, B, [8, 9, 10, 11]), [0] + A)
        self.assertEqual(pick(A, B, [12, 13, 14, 15]), [0] + B)
        self.assertEqual(pick(A, B, [16, 23, 65536, 65543]), [0, 10, -23, 10, -23])

    def test_below_0(self):
        self.assertEqual(pick(A, B, [-1, -2, -3, -4]), [0, -23, 22, -21, 20])
        self.assertEqual(pick(A, B, [-5, -6, -7, -8]), [0, -13, 12, -11, 10])
        self.assertEqual(pick(A, B, [-9, -10, -15, -16]), [0, -23, 22, -11, 10])

    def test_each_number_from_24_below_0_to_24(self):
        for number in range(-24, 25):
            for lane in range(4):
                which, expected = [7, 7, 7, 7], [-23, -23, -23, -23]
                which[lane], expected[lane] = number, (ALL * 7)[number + 24]
                self.assertEqual(pick(A, B, which), [0] + expected, (number, lane))

    def test_largest_and_smallest_in_which(self):
        self.assertEqual(pick(A, B, [GREATEST, LEAST, GREATEST - 1, LEAST + 1]), [0, -23, 10, 22, -11])
        self.assertEqual(pick(A, B, [GREATEST - 7, LEAST + 7, GREATEST - 4, LEAST + 4]), [0, 10, -23, -13, 20])

    def test_largest_and_smallest_in_a_and_b(self):
        a, b = [GREATEST, LEAST, 0, 1], [LEAST, GREATEST, -1, 0]
        self.assertEqual(pick(a, b, [0, 1, 4, 5]), [0, GREATEST, LEAST, LEAST, GREATEST])

    def test_all_choices_of_four(self):
        for which in itertools.product(range(8), repeat=4):
            self.assertEqual(pick(A, B, list(which)), [0] + [ALL[k] for k in which])

    def test_one_list_for_two_or_all_three(self):
        a = [6, 5, 3, 0]
        self.assertEqual(pick(a, a, [0, 4, 3, 7]), [0, 6, 6, 0, 0])
        self.assertEqual(pick(a, B, a), [0, 22, -21, 0, 6])
        self.assertEqual(pick(B, a, a), [0, 3, 5, -23, 20])
        self.assertEqual(pick(a, a, a), [0, 3, 5, 0, 6])
        self.assertEqual(a, [6, 5, 3, 0])
        self.assertEqual(B, [20, -21, 22, -23])


if __name__ == "__main__":
    unittest.main()
