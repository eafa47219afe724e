"""Whole numbers and fractions. A fraction is a tuple (top, bottom) in lowest terms, its bottom from 1 on."""

from glide.errors import NoNumber


def is_whole(thing):
    return isinstance(thing, int) and not isinstance(thing, bool)


def divisor(one, other):
    one = abs(one)
    other = abs(other)
    while other != 0:
        rest = one % other
        one = other
        other = rest
    return one


def portion(top, bottom):
    if not is_whole(top) or not is_whole(bottom) or bottom == 0:
        raise NoNumber("a fraction is made of two whole numbers, the second not 0")
    common = divisor(top, bottom)
    # Divided by a number of its own sign, the bottom comes out above 0.
    if bottom < 0:
        common = -common
    return (top // common, bottom // common)


def plus(one, other):
    return portion(one[0] * other[1] + other[0] * one[1], one[1] * other[1])


def minus(one, other):
    return portion(one[0] * other[1] - other[0] * one[1], one[1] * other[1])


def times(one, other):
    return portion(one[0] * other[0], one[1] * other[1])


def under(one, other):
    # Both bottoms are above 0, so multiplying by them keeps the order.
    return one[0] * other[1] < other[0] * one[1]
