"""Vectors of four numbers and matrices of sixteen, each a whole number that stands for its 65,536th part."""

LEAST = -2147483648
GREATEST = 2147483647
ONE = 65536
HALF = 32768


def held(number):
    if number < LEAST:
        return LEAST
    if number > GREATEST:
        return GREATEST
    return number


def towards_0(number, divisor):
    # // goes down, so the signs are put aside until it is done.
    part = abs(number) // abs(divisor)
    if (number < 0) == (divisor < 0):
        return part
    return -part


def sum_of(a, b):
    return [0] + [held(x + y) for x, y in zip(a, b)]


def difference(a, b):
    return [0] + [held(x - y) for x, y in zip(a, b)]


def product(a, b):
    # A product of two numbers stands for its ONE * ONE-th part; // goes down below 0 too.
    return [0] + [held((x * y + HALF) // ONE) for x, y in zip(a, b)]


def quotient_by_0(x):
    if x > 0:
        return GREATEST
    if x < 0:
        return LEAST
    return 0


def quotient_lane(x, y):
    if y == 0:
        return quotient_by_0(x)
    return held(towards_0(x * ONE, y))


def quotient(a, b):
    return [0] + [quotient_lane(x, y) for x, y in zip(a, b)]


def between(t, a, b):
    # Only the whole is held: a difference may lie outside of a number's range on the way.
    return [0] + [held(x + (y - x) * t // ONE) for x, y in zip(a, b)]


def sum_of_products_down(a, b):
    # Divided once, as a whole: what the single products leave over counts together.
    return sum([x * y for x, y in zip(a, b)]) // ONE


def dot(a, b):
    return [sum_of_products_down(a, b)]


def crossed_lane(a, b, i, j):
    return held((a[i] * b[j] - a[j] * b[i]) // ONE)


def cross(a, b):
    return [0, crossed_lane(a, b, 1, 2), crossed_lane(a, b, 2, 0), crossed_lane(a, b, 0, 1), 0]


def root_down(number):
    # From above, the mean of a guess and the number by it falls until it is the root down, and never below that.
    guess = number
    while guess * guess > number:
        guess = (guess + number // guess) // 2
    return guess


def length(a):
    return [root_down(sum([x * x for x in a[:3]]))]


def unit(a):
    size = length(a)[0]
    if size == 0:
        return [0] + a
    # No lane need be held: the length is down, yet no lane lies further from 0 than it.
    return [0] + [towards_0(x * ONE, size) for x in a[:3]] + [a[3]]


def pick(a, b, which):
    lanes = a + b
    # What is left over is 0 to 7 for numbers below 0 too.
    return [0] + [lanes[number % 8] for number in which]


def beyond(x, w):
    # Not either or: where w is below 0, a lane may lie beyond both bounds.
    below = 1 if x < -w else 0
    above = 2 if x > w else 0
    return below + above


def outside(p):
    w = p[3]
    return [beyond(p[0], w) + 4 * beyond(p[1], w) + 16 * beyond(p[2], w)]


def fours(numbers):
    return [numbers[start:start + 4] for start in range(0, len(numbers), 4)]


def applied(rows, point):
    return [held(sum_of_products_down(row, point)) for row in rows]


def apply(m, p):
    return [0] + applied(fours(m), p)


def all_applied(rows, points):
    answer = [0]
    for point in points:
        answer.extend(applied(rows, point))
    return answer


def all_points(m, p):
    return all_applied(fours(m), fours(p))


def columns(numbers):
    return [numbers[lane::4] for lane in range(4)]


def compose(a, b):
    # Each place sums a row of a by a column of b, so b's columns take the place of the rows that are applied.
    return all_applied(columns(b), fours(a))


def turn(m):
    answer = [0]
    for column in columns(m):
        answer.extend(column)
    return answer


def on_the_bounds(point, least, greatest):
    return any([x == low or x == high for x, low, high in zip(point, least, greatest)])


def bounds(p):
    if len(p) == 0:
        return [0]
    lanes = columns(p)
    least = [min(lane) for lane in lanes]
    greatest = [max(lane) for lane in lanes]
    # A point counts once, however many of its lanes are the least's or the greatest's.
    touching = [point for point in fours(p) if on_the_bounds(point, least, greatest)]
    return [len(touching)] + least + greatest
