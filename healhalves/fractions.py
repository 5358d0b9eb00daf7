"""Fractions in lowest terms, and shares."""

from healhalves.errors import NoNumber
from healhalves.kinds import is_whole

# The greatest whole number of twelve figures.
GREATEST_IN_SHARE = 999999999999


def is_fraction(thing):
    if not isinstance(thing, tuple) or len(thing) != 2:
        return False
    if not is_whole(thing[0]) or not is_whole(thing[1]) or thing[1] < 1:
        return False
    return greatest_divisor(abs(thing[0]), thing[1]) == 1


def is_share(thing):
    return is_fraction(thing) and 0 <= thing[0] <= thing[1] <= GREATEST_IN_SHARE


def fraction(top, bottom):
    if not is_whole(top) or not is_whole(bottom) or bottom == 0:
        raise NoNumber("a fraction is made of two whole numbers, the second not 0")
    divisor = greatest_divisor(abs(top), abs(bottom))
    # The sign stands above alone.
    if bottom < 0:
        divisor = -divisor
    return (top // divisor, bottom // divisor)


def greatest_divisor(one, other):
    while other != 0:
        rest = one % other
        one = other
        other = rest
    return one


def plus(one, other):
    return fraction(one[0] * other[1] + other[0] * one[1], one[1] * other[1])


def minus(one, other):
    return fraction(one[0] * other[1] - other[0] * one[1], one[1] * other[1])


def times(one, other):
    return fraction(one[0] * other[0], one[1] * other[1])


def is_less(one, other):
    return one[0] * other[1] < other[0] * one[1]
