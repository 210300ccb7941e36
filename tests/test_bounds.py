"""Promise 14: bounds, how many points have some lane that's the least's or the greatest's, the least, the greatest."""

import itertools
import time
import unittest

from fourfixed.vectors import bounds

LEAST = -2**31
GREATEST = 2**31 - 1

LOW = [-9, -9, -9, -9]
HIGH = [9, 9, 9, 9]


def expected(p):
    points = list(zip(*[iter(p)] * 4))
    if not points:
        return [0]
    least, greatest = [], []
    for lane in range(4):
        ordered = sorted(point[lane] for point in points)
        least.append(ordered[0])
        greatest.append(ordered[-1])
    count = 0
    for point in points:
        if any(point[lane] in (least[lane], greatest[lane]) for lane in range(4)):
            count += 1
    return [count] + least + greatest


class Bounds(unittest.TestCase):
    def test_no_point(self):
        self.assertEqual(bounds([]), [0])

    def test_one_point(self):
        self.assertEqual(bounds([1, -2, 3, -4]), [1, 1, -2, 3, -4, 1, -2, 3, -4])
        self.assertEqual(bounds([0, 0, 0, 0]), [1, 0, 0, 0, 0, 0, 0, 0, 0])

    def test_two_points(self):
        self.assertEqual(bounds([1, -2, 3, -4, -5, 6, 3, -8]), [2, -5, -2, 3, -8, 1, 6, 3, -4])

    def test_lane_by_lane(self):
        # Each lane's least and greatest come from other points.
        self.assertEqual(bounds([1, 20, 300, 4000, 4, 10, 200, 3000, 3, 40, 100, 2000, 2, 30, 400, 1000]),
                         [4, 1, 10, 100, 1000, 4, 40, 400, 4000])

    def test_points_within_do_not_count(self):
        self.assertEqual(bounds(LOW + [0, 1, 2, 3] + HIGH), [2] + LOW + HIGH)
        self.assertEqual(bounds([0, 1, 2, 3] + LOW + HIGH + [-8, 8, -8, 8]), [2] + LOW + HIGH)
        self.assertEqual(bounds(LOW + HIGH + [8, -8, 8, -8] * 3), [2] + LOW + HIGH)

    def test_one_lane_is_enough(self):
        for lane in range(4):
            for end in (-9, 9):
                point = [1, 2, 3, 4]
                point[lane] = end
                self.assertEqual(bounds(LOW + point + HIGH), [3] + LOW + HIGH, point)

    def test_just_within_is_not_enough(self):
        for lane in range(4):
            for number in (-8, 8):
                point = [1, 2, 3, 4]
                point[lane] = number
                self.assertEqual(bounds(LOW + point + HIGH), [2] + LOW + HIGH, point)

    def test_a_point_with_several_such_lanes_counts_once(self):
        self.assertEqual(bounds(LOW + [-9, 9, -9, 0] + HIGH), [3] + LOW + HIGH)
        self.assertEqual(bounds(LOW + [9, -9, 9, -9] + HIGH + [0, 0, 0, 0]), [3] + LOW + HIGH)

    def test_several_equal_points_all_count(self):
        self.assertEqual(bounds(LOW * 3 + [0, 0, 0, 0] * 2 + HIGH * 4), [7] + LOW + HIGH)
        self.assertEqual(bounds(LOW + HIGH + [1, 2, 9, 3] * 3), [5] + LOW + HIGH)

    def test_all_points_equal(self):
        self.assertEqual(bounds([5, -6, 7, -8] * 6), [6, 5, -6, 7, -8, 5, -6, 7, -8])

    def test_one_lane_equal_in_all_points(self):
        for lane in range(4):
            points = [list(LOW), [1, 2, 3, 4], [4, 3, 2, 1], list(HIGH)]
            least, greatest = list(LOW), list(HIGH)
            for point in points + [least, greatest]:
                point[lane] = 5
            self.assertEqual(bounds(sum(points, [])), [4] + least + greatest, lane)

    def test_a_number_counts_in_its_own_lane_only(self):
        # Each number of the points in the middle is an end, but of another lane.
        low, high = [-40, -30, -20, -10], [10, 20, 30, 40]
        self.assertEqual(bounds(low + [-30, -20, -10, 10] + high), [2] + low + high)
        self.assertEqual(bounds(low + [-10, 10, 20, 30] + high), [2] + low + high)

    def test_least_and_greatest_need_not_be_points(self):
        self.assertEqual(bounds([-5, 0, 0, 0, 5, 0, 0, 0, 0, -5, 0, 1, 0, 5, 0, -1]),
                         [4, -5, -5, 0, -1, 5, 5, 0, 1])

    def test_order_of_the_points_changes_nothing(self):
        points = [[-9, 1, 1, 1], [9, 9, 9, 9], [0, -9, 0, -9], [1, 1, -9, 1], [0, 0, 0, 0]]
        for order in itertools.permutations(points):
            self.assertEqual(bounds(sum(order, [])), [4] + LOW + HIGH)

    def test_all_below_or_all_above_0(self):
        self.assertEqual(bounds([-5, -6, -7, -8, -1, -2, -3, -4, -3, -4, -5, -6]),
                         [2, -5, -6, -7, -8, -1, -2, -3, -4])
        self.assertEqual(bounds([5, 6, 7, 8, 1, 2, 3, 4, 3, 4, 5, 6]), [2, 1, 2, 3, 4, 5, 6, 7, 8])

    def test_largest_and_smallest(self):
        ends = [GREATEST, LEAST, GREATEST, LEAST]
        self.assertEqual(bounds(ends), [1] + ends + ends)
        self.assertEqual(bounds(ends + [LEAST, GREATEST, LEAST, GREATEST] + [0, 1, -1, 2]),
                         [2] + [LEAST] * 4 + [GREATEST] * 4)
        self.assertEqual(bounds([LEAST] * 4 + [LEAST + 1, GREATEST - 1, 0, LEAST + 1] + [GREATEST] * 4),
                         [2] + [LEAST] * 4 + [GREATEST] * 4)
        self.assertEqual(bounds([LEAST] * 8), [2] + [LEAST] * 8)
        self.assertEqual(bounds([GREATEST] * 8), [2] + [GREATEST] * 8)

    def test_small_points_with_one_another(self):
        points = [list(point) for point in itertools.product((-1, 0, 2), (0, 1), (0, 1, 2), (5, 6))]
        for a, b, c in itertools.product(points, repeat=3):
            self.assertEqual(bounds(a + b + c), expected(a + b + c), (a, b, c))

    def test_most_points(self):
        p = [number * 2654435761 % 2**32 - 2**31 for number in range(30000)]
        handed = list(p)
        start = time.monotonic()
        answer = bounds(handed)
        self.assertLess(time.monotonic() - start, 5)
        self.assertEqual(handed, p)
        self.assertEqual(answer, expected(p))
        self.assertLessEqual(answer[0], 8)

    def test_most_points_that_all_count(self):
        self.assertEqual(bounds([1, 2, 3, 4] * 7500), [7500, 1, 2, 3, 4, 1, 2, 3, 4])
        rising = [lane for number in range(7500) for lane in (number, -number, 7, number % 2)]
        self.assertEqual(bounds(rising), [7500, 0, -7499, 7, 0, 7499, 0, 7, 1])


if __name__ == "__main__":
    unittest.main()
