"""Promise 13: turn, row i's lane j is m's row j lane i."""

import unittest

from fourfixed.vectors import turn

LEAST = -2**31
GREATEST = 2**31 - 1

COUNTING = [1, 2, 3, 4,
            5, 6, 7, 8,
            9, 10, 11, 12,
            13, 14, 15, 16]


class Turn(unittest.TestCase):
    def test_sixteen_that_differ(self):
        self.assertEqual(turn(COUNTING), [0, 1, 5, 9, 13,
                                          2, 6, 10, 14,
                                          3, 7, 11, 15,
                                          4, 8, 12, 16])

    def test_each_place(self):
        for row in range(4):
            for lane in range(4):
                m, answer = [0] * 16, [0] * 16
                m[4 * row + lane] = answer[4 * lane + row] = -7
                self.assertEqual(turn(m), [0] + answer, (row, lane))

    def test_twice_it_is_the_matrix_again(self):
        for m in (COUNTING, [-65536 * number for number in COUNTING], [LEAST, GREATEST, 0, 1] * 4):
            self.assertEqual(turn(turn(m)[1:]), [0] + m)

    def test_the_matrix_that_changes_nothing(self):
        m = [65536, 0, 0, 0, 0, 65536, 0, 0, 0, 0, 65536, 0, 0, 0, 0, 65536]
        self.assertEqual(turn(m), [0] + m)

    def test_rows_become_columns(self):
        self.assertEqual(turn([5] * 4 + [6] * 4 + [7] * 4 + [8] * 4), [0] + [5, 6, 7, 8] * 4)
        self.assertEqual(turn([5, 6, 7, 8] * 4), [0] + [5] * 4 + [6] * 4 + [7] * 4 + [8] * 4)

    def test_largest_and_smallest(self):
        self.assertEqual(turn([LEAST, GREATEST, LEAST + 1, GREATEST - 1] * 4),
                         [0] + [LEAST] * 4 + [GREATEST] * 4 + [LEAST + 1] * 4 + [GREATEST - 1] * 4)
        self.assertEqual(turn([LEAST] * 16), [0] + [LEAST] * 16)
        self.assertEqual(turn([GREATEST] * 16), [0] + [GREATEST] * 16)


if __name__ == "__main__":
    unittest.main()
