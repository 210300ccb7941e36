"""Vectors of four numbers, each a whole number that stands for its 65,536th part."""

LEAST = -2147483648
GREATEST = 2147483647
ONE = 65536
HALF = 32768


def held(number):
    if number < LEAST:
        return LEAST
    if number > GREATEST:
        return GREATEST
    return number


def sum_of(a, b):
    return [0] + [held(x + y) for x, y in zip(a, b)]


def difference(a, b):
    return [0] + [held(x - y) for x, y in zip(a, b)]


def product(a, b):
    # A product of two numbers stands for its ONE * ONE-th part; // goes down below 0 too.
    return [0] + [held((x * y + HALF) // ONE) for x, y in zip(a, b)]
