"""Promise 12: compose, row i's lane j is the sum over k of a's row i lane k by b's row k lane j, down, held."""

import itertools
import math
import unittest
from fractions import Fraction

from fourfixed.vectors import apply, compose

LEAST = -2**31
GREATEST = 2**31 - 1

UNCHANGING = [65536, 0, 0, 0,
              0, 65536, 0, 0,
              0, 0, 65536, 0,
              0, 0, 0, 65536]

# 1 to 16, row after row.
COUNTING = [65536 * number for number in range(1, 17)]

OTHER = [2, 3, 5, 7,
         11, 13, 17, 19,
         -23, 29, -31, 37,
         41, -43, 47, -53]

EDGES = [LEAST, LEAST + 1, -65537, -1, 0, 1, 32769, GREATEST - 1, GREATEST]


def expected(a, b):
    answer = [0]
    for i in range(4):
        for j in range(4):
            exact = math.floor(sum(Fraction(a[4 * i + k] * b[4 * k + j], 2**16) for k in range(4)))
            answer.append(max(LEAST, min(GREATEST, exact)))
    return answer


def with_place(row, lane, number):
    m = [0] * 16
    m[4 * row + lane] = number
    return m


def first_row(row):
    return row + [0] * 12


def first_column(column):
    return [number for lane in column for number in (lane, 0, 0, 0)]


class Compose(unittest.TestCase):
    def test_nothing_changes_on_either_side(self):
        for m in (COUNTING, OTHER, UNCHANGING, [0] * 16, [LEAST, GREATEST] * 8):
            self.assertEqual(compose(UNCHANGING, m), [0] + m)
            self.assertEqual(compose(m, UNCHANGING), [0] + m)

    def test_zeros(self):
        self.assertEqual(compose([0] * 16, COUNTING), [0] * 17)
        self.assertEqual(compose(COUNTING, [0] * 16), [0] * 17)

    def test_ordinary(self):
        self.assertEqual(compose(COUNTING, OTHER), [0, 119, -56, 134, -56,
                                                    243, -48, 286, -16,
                                                    367, -40, 438, 24,
                                                    491, -32, 590, 64])

    def test_in_the_other_order(self):
        self.assertEqual(compose(OTHER, COUNTING), [0, 153, 170, 187, 204,
                                                    476, 536, 596, 656,
                                                    324, 336, 348, 360,
                                                    -440, -448, -456, -464])

    def test_each_place_with_each_place(self):
        for i, k, row, j in itertools.product(range(4), repeat=4):
            answer = with_place(i, j, 7) if k == row else [0] * 16
            self.assertEqual(compose(with_place(i, k, 65536), with_place(row, j, 7)), [0] + answer, (i, k, row, j))

    def test_moves_one_after_another(self):
        double = [131072, 0, 0, 0, 0, 131072, 0, 0, 0, 0, 131072, 0, 0, 0, 0, 65536]
        move = [65536, 0, 0, 5, 0, 65536, 0, 6, 0, 0, 65536, 7, 0, 0, 0, 65536]
        point = [100, 200, 300, 65536]
        self.assertEqual(compose(move, double), [0, 131072, 0, 0, 5, 0, 131072, 0, 6, 0, 0, 131072, 7, 0, 0, 0, 65536])
        self.assertEqual(compose(double, move),
                         [0, 131072, 0, 0, 10, 0, 131072, 0, 12, 0, 0, 131072, 14, 0, 0, 0, 65536])
        # The second matrix is the one that is applied first.
        self.assertEqual(apply(compose(move, double)[1:], point), [0, 205, 406, 607, 65536])
        self.assertEqual(apply(compose(double, move)[1:], point), [0, 210, 412, 614, 65536])

    def test_the_sum_goes_down_once(self):
        ones = [1] * 16
        self.assertEqual(compose([16384] * 16, ones), [0] + [1] * 16)
        self.assertEqual(compose([-16384] * 16, ones), [0] + [-1] * 16)
        self.assertEqual(compose([-1] * 16, ones), [0] + [-1] * 16)
        self.assertEqual(compose([32768, -32768, 1, -1] * 4, ones), [0] * 17)

    def test_sums_below_0_go_down(self):
        a = [-1, 0, 0, 0, 0, -65536, 0, 0, 0, -65536, -1, 0, -65535, -65535, -3, 0]
        self.assertEqual(compose(a, [1] * 16), [0] + [-1] * 8 + [-2] * 4 + [-3] * 4)

    def test_sums_above_0_go_down_and_nothing_is_added(self):
        a = [65535, 0, 0, 0, 0, 65535, 1, 0, 32768, 0, 0, 0, 65535, 65535, 1, 0]
        self.assertEqual(compose(a, [1] * 16), [0] + [0] * 4 + [1] * 4 + [0] * 4 + [1] * 4)

    def test_held_in_each_place(self):
        for i, j in itertools.product(range(4), repeat=2):
            self.assertEqual(compose(with_place(i, 2, GREATEST), with_place(2, j, 65537)),
                             [0] + with_place(i, j, GREATEST))
            self.assertEqual(compose(with_place(i, 2, LEAST), with_place(2, j, 65537)),
                             [0] + with_place(i, j, LEAST))

    def test_just_at_the_ends_and_just_beyond(self):
        for lane, answer in [(-1, GREATEST - 1), (0, GREATEST), (65535, GREATEST), (65536, GREATEST)]:
            self.assertEqual(compose(first_row([65536, lane, 0, 0]), first_column([GREATEST, 1, 0, 0])),
                             [0] + first_row([answer, 0, 0, 0]), lane)
        for lane, answer in [(65536, LEAST + 1), (65535, LEAST), (0, LEAST), (-1, LEAST)]:
            self.assertEqual(compose(first_row([65536, lane, 0, 0]), first_column([LEAST, 1, 0, 0])),
                             [0] + first_row([answer, 0, 0, 0]), lane)

    def test_products_are_not_held(self):
        self.assertEqual(compose(first_row([GREATEST, GREATEST, 65536, 0]), first_column([GREATEST, -GREATEST, 7, 0])),
                         [0] + first_row([7, 0, 0, 0]))

    def test_exact_where_the_last_bits_decide(self):
        a = first_row([GREATEST, LEAST, 1, 0])
        for lane, answer in [(0, -32768), (65534, -32768), (65535, -32767)]:
            self.assertEqual(compose(a, first_column([GREATEST, GREATEST, lane, 0])),
                             [0] + first_row([answer, 0, 0, 0]), lane)

    def test_largest_and_smallest(self):
        self.assertEqual(compose([GREATEST] * 16, [GREATEST] * 16), [0] + [GREATEST] * 16)
        self.assertEqual(compose([LEAST] * 16, [LEAST] * 16), [0] + [GREATEST] * 16)
        self.assertEqual(compose([LEAST] * 16, [GREATEST] * 16), [0] + [LEAST] * 16)
        self.assertEqual(compose([GREATEST] * 16, [LEAST] * 16), [0] + [LEAST] * 16)

    def test_same_list_as_both(self):
        m = list(OTHER)
        self.assertEqual(compose(m, m), expected(OTHER, OTHER))
        self.assertEqual(m, OTHER)
        counting = list(range(65536, 65536 * 17, 65536))
        self.assertEqual(compose(counting, counting), [0] + [65536 * number for number in
                                                             (90, 100, 110, 120, 202, 228, 254, 280,
                                                              314, 356, 398, 440, 426, 484, 542, 600)])

    def test_edges_with_one_another(self):
        for x, y, z in itertools.product(EDGES, repeat=3):
            a = [x, y, z, 1, y, z, x, -1, z, x, y, 65535, 3, x, -5, y]
            b = [z, 65537, x, y, 7, x, -9, z, y, y, x, 1, -65536, z, x, -3]
            self.assertEqual(compose(a, b), expected(a, b), (a, b))


if __name__ == "__main__":
    unittest.main()
