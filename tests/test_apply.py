"""Promise 11: apply, lane i is the sum of the products of row i's lanes and p's, divided by 2^16 down, held."""

import itertools
import math
import unittest
from fractions import Fraction

from fourfixed.vectors import apply

LEAST = -2**31
GREATEST = 2**31 - 1

UNCHANGING = [65536, 0, 0, 0,
              0, 65536, 0, 0,
              0, 0, 65536, 0,
              0, 0, 0, 65536]

# 1 to 16, row after row.
COUNTING = [65536 * number for number in range(1, 17)]

EDGES = [LEAST, LEAST + 1, -65537, -1, 0, 1, 32769, GREATEST - 1, GREATEST]


def expected(m, p):
    sums = [sum(m[4 * i + k] * p[k] for k in range(4)) for i in range(4)]
    return [0] + [max(LEAST, min(GREATEST, math.floor(Fraction(number, 2**16)))) for number in sums]


def first_row(row):
    return row + [0] * 12


class Apply(unittest.TestCase):
    def test_nothing_changes(self):
        for p in ([1, 2, 3, 4], [-1, -20, -300, -4000], [GREATEST, LEAST, LEAST, GREATEST], [0, 0, 0, 0]):
            self.assertEqual(apply(UNCHANGING, p), [0] + p)

    def test_zeros(self):
        self.assertEqual(apply([0] * 16, [GREATEST, LEAST, 1, -1]), [0, 0, 0, 0, 0])
        self.assertEqual(apply(COUNTING, [0, 0, 0, 0]), [0, 0, 0, 0, 0])

    def test_ordinary(self):
        self.assertEqual(apply(COUNTING, [1, 10, 100, 1000]), [0, 4321, 8765, 13209, 17653])

    def test_move(self):
        move = [65536, 0, 0, 7, 0, 65536, 0, -8, 0, 0, 65536, 9, 0, 0, 0, 65536]
        self.assertEqual(apply(move, [100, 200, 300, 65536]), [0, 107, 192, 309, 65536])
        self.assertEqual(apply(move, [100, 200, 300, 0]), [0, 100, 200, 300, 0])

    def test_each_place(self):
        for row in range(4):
            for lane in range(4):
                m, answer = [0] * 16, [0, 0, 0, 0]
                m[4 * row + lane], answer[row] = 65536, lane + 5
                self.assertEqual(apply(m, [5, 6, 7, 8]), [0] + answer, (row, lane))

    def test_each_column(self):
        for lane in range(4):
            p = [0, 0, 0, 0]
            p[lane] = 65536
            self.assertEqual(apply(COUNTING, p), [0] + [65536 * (4 * row + lane + 1) for row in range(4)], lane)

    def test_the_sum_goes_down_once(self):
        self.assertEqual(apply([16384] * 4 + [-16384] * 4 + [1] * 4 + [-1] * 4, [1, 1, 1, 1]), [0, 1, -1, 0, -1])
        self.assertEqual(apply([32768, -32768, 0, 0] * 4, [1, 1, 0, 0]), [0, 0, 0, 0, 0])

    def test_sums_below_0_go_down(self):
        self.assertEqual(apply([-1, 0, 0, 0, 0, -65536, 0, 0, 0, -65536, -1, 0, -65535, -65535, -3, 0], [1, 1, 1, 1]),
                         [0, -1, -1, -2, -3])

    def test_sums_above_0_go_down_and_nothing_is_added(self):
        self.assertEqual(apply([65535, 0, 0, 0, 0, 65535, 1, 0, 32768, 0, 0, 0, 65535, 65535, 1, 0], [1, 1, 1, 1]),
                         [0, 0, 1, 0, 1])

    def test_held_above(self):
        self.assertEqual(apply([GREATEST, 0, 0, 0, 0, LEAST, 0, 0, 0, 0, 65537, 0, 65536, 0, 0, 65536],
                               [GREATEST, LEAST, GREATEST, 1]),
                         [0, GREATEST, GREATEST, GREATEST, GREATEST])

    def test_held_below(self):
        self.assertEqual(apply([LEAST, 0, 0, 0, 0, GREATEST, 0, 0, 0, 0, -65538, 0, 0, 65536, 0, -65536],
                               [GREATEST, LEAST, GREATEST, 1]),
                         [0, LEAST, LEAST, LEAST, LEAST])

    def test_one_held_lane_leaves_the_others(self):
        for row in range(4):
            for end in (LEAST, GREATEST):
                m, answer = [65536, 0, 0, 0] * 4, [2, 2, 2, 2]
                m[4 * row + 1], answer[row] = end, end
                self.assertEqual(apply(m, [2, 131072, 0, 0]), [0] + answer, (row, end))

    def test_just_at_the_ends_and_just_beyond(self):
        p = [GREATEST, LEAST, 1, 0]
        self.assertEqual(apply([65536, 0, 0, 0, 65536, 0, 65535, 0, 65536, 0, 65536, 0, 65536, 0, -1, 0], p),
                         [0, GREATEST, GREATEST, GREATEST, GREATEST - 1])
        self.assertEqual(apply([0, 65536, 0, 0, 0, 65536, -1, 0, 0, 65536, 65535, 0, 0, 65536, 65536, 0], p),
                         [0, LEAST, LEAST, LEAST, LEAST + 1])

    def test_products_are_not_held(self):
        self.assertEqual(apply(first_row([GREATEST, GREATEST, 65536, 0]), [GREATEST, -GREATEST, 7, 0]), [0, 7, 0, 0, 0])
        self.assertEqual(apply(first_row([LEAST, LEAST, LEAST, LEAST]), [LEAST, GREATEST, 65536, -65536]),
                         [0, 32768, 0, 0, 0])

    def test_exact_where_the_last_bits_decide(self):
        m = first_row([GREATEST, LEAST, 1, 0])
        # The products are near 2^62 and -2^62: together 1 first, and then 1 - 2^31.
        self.assertEqual(apply(m, [GREATEST, GREATEST - 1, 0, 0]), [0, 0, 0, 0, 0])
        self.assertEqual(apply(m, [GREATEST, GREATEST - 1, -1, 0]), [0, 0, 0, 0, 0])
        self.assertEqual(apply(m, [GREATEST, GREATEST - 1, -2, 0]), [0, -1, 0, 0, 0])
        self.assertEqual(apply(m, [GREATEST, GREATEST, 0, 0]), [0, -32768, 0, 0, 0])
        self.assertEqual(apply(m, [GREATEST, GREATEST, 65535, 0]), [0, -32767, 0, 0, 0])
        self.assertEqual(apply(m, [GREATEST, GREATEST, 65534, 0]), [0, -32768, 0, 0, 0])

    def test_largest_and_smallest(self):
        self.assertEqual(apply([GREATEST] * 16, [GREATEST] * 4), [0] + [GREATEST] * 4)
        self.assertEqual(apply([LEAST] * 16, [LEAST] * 4), [0] + [GREATEST] * 4)
        self.assertEqual(apply([LEAST] * 16, [GREATEST] * 4), [0] + [LEAST] * 4)
        self.assertEqual(apply([GREATEST] * 16, [LEAST] * 4), [0] + [LEAST] * 4)
        self.assertEqual(apply([GREATEST, LEAST, GREATEST, LEAST] * 4, [GREATEST, GREATEST, LEAST, LEAST]),
                         [0, 0, 0, 0, 0])

    def test_edges_with_one_another(self):
        for x, y, z in itertools.product(EDGES, repeat=3):
            m = [x, y, z, 1, y, z, x, -1, z, x, y, 65535, 3, x, -5, y]
            p = [z, 65537, x, y]
            self.assertEqual(apply(m, p), expected(m, p), (m, p))


if __name__ == "__main__":
    unittest.main()
