"""Vectors of four numbers, each a whole number that stands for its 65,536th part."""

LEAST = -2147483648
GREATEST = 2147483647
ONE = 65536
HALF = 32768


def held(number):
    if number < LEAST:
        return LEAST
    if number > GREATEST:
        return GREATEST
    return number


def towards_0(number, divisor):
    # // goes down, so the signs are put aside until it is done.
    part = abs(number) // abs(divisor)
    if (number < 0) == (divisor < 0):
        return part
    return -part


def sum_of(a, b):
    return [0] + [held(x + y) for x, y in zip(a, b)]


def difference(a, b):
    return [0] + [held(x - y) for x, y in zip(a, b)]


def product(a, b):
    # A product of two numbers stands for its ONE * ONE-th part; // goes down below 0 too.
    return [0] + [held((x * y + HALF) // ONE) for x, y in zip(a, b)]


def quotient_by_0(x):
    if x > 0:
        return GREATEST
    if x < 0:
        return LEAST
    return 0


def quotient_lane(x, y):
    if y == 0:
        return quotient_by_0(x)
    return held(towards_0(x * ONE, y))


def quotient(a, b):
    return [0] + [quotient_lane(x, y) for x, y in zip(a, b)]


def between(t, a, b):
    # Only the whole is held: a difference may lie outside of a number's range on the way.
    return [0] + [held(x + (y - x) * t // ONE) for x, y in zip(a, b)]


def sum_of_products_down(a, b):
    # Divided once, as a whole: what the single products leave over counts together.
    return sum([x * y for x, y in zip(a, b)]) // ONE


def dot(a, b):
    return [sum_of_products_down(a, b)]
