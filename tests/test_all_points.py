"""Promise 11: all (here all_points) does what apply does to each of the points, in order."""

import time
import unittest

from fourfixed.vectors import all_points, apply

LEAST = -2**31
GREATEST = 2**31 - 1

UNCHANGING = [65536, 0, 0, 0,
              0, 65536, 0, 0,
              0, 0, 65536, 0,
              0, 0, 0, 65536]

# 1 to 16, row after row.
COUNTING = [65536 * number for number in range(1, 17)]

MIXED = [-1, 2, -3, 4, 65535, -65537, 0, 1, GREATEST, LEAST, 7, -7, 32768, -32768, 5, 6]


def spread(count):
    """Points over the whole range of numbers, all of them different."""
    return [(number * 2654435761 + number // 4) % 2**32 - 2**31 for number in range(4 * count)]


def one_by_one(m, p):
    answer = [0]
    for start in range(0, len(p), 4):
        answer += apply(m, p[start:start + 4])[1:]
    return answer


class AllPoints(unittest.TestCase):
    def test_no_point(self):
        for m in (UNCHANGING, COUNTING, [0] * 16, [LEAST] * 16):
            self.assertEqual(all_points(m, []), [0])

    def test_one_point(self):
        self.assertEqual(all_points(COUNTING, [1, 10, 100, 1000]), [0, 4321, 8765, 13209, 17653])

    def test_several_points_in_order(self):
        self.assertEqual(all_points(COUNTING, [1, 10, 100, 1000, 1, 0, 0, 0, 0, 0, 0, -2]),
                         [0, 4321, 8765, 13209, 17653, 1, 5, 9, 13, -8, -16, -24, -32])
        self.assertEqual(all_points(COUNTING, [0, 0, 0, -2, 1, 10, 100, 1000, 1, 0, 0, 0]),
                         [0, -8, -16, -24, -32, 4321, 8765, 13209, 17653, 1, 5, 9, 13])

    def test_equal_points(self):
        self.assertEqual(all_points(COUNTING, [1, 10, 100, 1000] * 3), [0] + [4321, 8765, 13209, 17653] * 3)

    def test_nothing_changes(self):
        for count in range(6):
            self.assertEqual(all_points(UNCHANGING, spread(count)), [0] + spread(count))

    def test_each_point_is_what_apply_gives(self):
        for m in (COUNTING, MIXED, [LEAST] * 16, [GREATEST] * 16):
            for count in (1, 2, 3, 4, 5, 16, 101):
                self.assertEqual(all_points(m, spread(count)), one_by_one(m, spread(count)))

    def test_sums_below_0_go_down(self):
        self.assertEqual(all_points([-1] * 16, [1, 1, 1, 1, 65536, 1, 0, 0]), [0] + [-1] * 4 + [-2] * 4)

    def test_held_at_either_end(self):
        double = [131072, 0, 0, 0, 0, 131072, 0, 0, 0, 0, 131072, 0, 0, 0, 0, 131072]
        self.assertEqual(all_points(double, [2**30, 2**30 - 1, -2**30, -2**30 - 1,
                                             1, 2, 3, 4,
                                             GREATEST, LEAST, -5, 6]),
                         [0, GREATEST, GREATEST - 1, LEAST, LEAST, 2, 4, 6, 8, GREATEST, LEAST, -10, 12])

    def test_same_list_as_both(self):
        m = list(COUNTING)
        self.assertEqual(all_points(m, m), one_by_one(COUNTING, COUNTING))
        self.assertEqual(m, COUNTING)

    def test_most_points(self):
        p = spread(7500)
        self.assertEqual(len(set(p)), 30000)
        handed = list(p)
        start = time.monotonic()
        answer = all_points(MIXED, handed)
        self.assertLess(time.monotonic() - start, 5)
        self.assertEqual(handed, p)
        self.assertEqual(answer, one_by_one(MIXED, p))
        self.assertEqual(all_points(UNCHANGING, p), [0] + p)


if __name__ == "__main__":
    unittest.main()
