"""Signs, rows of signs, and their sums."""

from healhalves.kinds import is_number_below


def is_sign(thing):
    return is_number_below(thing, 2)


def is_row(thing, length):
    return isinstance(thing, list) and len(thing) == length and all([is_sign(sign) for sign in thing])


def sum_of(signs):
    return sum(signs) % 2


def added(one, other):
    return [sum_of([sign, beside]) for sign, beside in zip(one, other)]
