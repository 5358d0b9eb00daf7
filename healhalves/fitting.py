"""Which data fit what came: how many, and which."""

from healhalves.codes import check_code, fixed_signs
from healhalves.errors import TooMany
from healhalves.kinds import length_of
from healhalves.reading import check_came
from healhalves.signs import added, sum_of
from healhalves.words import is_reached

# A sum is a tuple (places, spots): a core's signs at the places sum to its word's signs at the spots. Both are kept
# as marks, whole numbers whose figure at 2 ** n is 1 where n is one of them, so that two sums are added at once.

MOST_DATA_TOLD = 256


def how_many_fit(code, came):
    check_code(code)
    check_came(code[0], came)
    left = left_open(code, came)
    return 0 if left is None else doubled(left)


def all_that_fit(code, came):
    check_code(code)
    check_came(code[0], came)
    return data_told_by(code, came, sums_that_came(code, came))


# The r of which 2 ** r data fit, None where nothing fits.
def left_open(code, came):
    found = solved(code, sums_that_came(code, came))
    if first_slip(code, came, found[1]) is not None:
        return None
    return len(code[1]) - len(found[0])


def doubled(times):
    number = 1
    for time in range(times):
        number = number + number
    return number


def marks_of(numbers):
    return sum([doubled(number) for number in numbers])


def numbers_of(marks):
    return [number for number in range(marks.bit_length()) if has_mark(marks, number)]


def has_mark(marks, number):
    return ((marks >> number) & 1) == 1


def sum_at_spot(size, spot):
    return (marks_of([place for place in range(length_of(size)) if is_reached(place, spot)]), doubled(spot))


def sums_that_came(code, came):
    return [sum_at_spot(code[0], spot) for spot, sign in enumerate(came) if sign is not None]


def both_sums(one, other):
    return (one[0] ^ other[0], one[1] ^ other[1])


# A tuple of the sums that tell a free place, by the place, and of those in which no free place is left.
def solved(code, sums):
    free = marks_of(code[1])
    told = {}
    rest = []
    for one in sums:
        less = put_in(told, free, one)
        if (less[0] & free) == 0:
            rest.append(less)
    return (told, rest)


# What is left of a sum by those told ahead. If a free place is left, it is told by this sum from now on, and taken
# out of all others, so that each place that is told stands in one sum alone.
def put_in(told, free, one):
    for place in told:
        if has_mark(one[0], place):
            one = both_sums(one, told[place])
    if (one[0] & free) != 0:
        first = numbers_of(one[0] & free)[0]
        for place in list(told):
            if has_mark(told[place][0], first):
                told[place] = both_sums(told[place], one)
        told[first] = one
    return one


# What the signs that came and the fixed ones of a sum make together.
def sign_told(code, came, one):
    fixed = fixed_signs(code)
    signs = [fixed[place] for place in numbers_of(one[0]) if place in fixed]
    return sum_of(signs + [came[spot] for spot in numbers_of(one[1])])


# The first of the sums without a free place that what came belies, else None.
def first_slip(code, came, rest):
    for one in rest:
        if sign_told(code, came, one) == 1:
            return one
    return None


def data_told_by(code, came, sums):
    found = solved(code, sums)
    if first_slip(code, came, found[1]) is not None:
        return []
    left = [place for place in code[1] if place not in found[0]]
    if doubled(len(left)) > MOST_DATA_TOLD:
        raise TooMany("at most 256 data are told")
    rows = [first_data(code, came, found[0])]
    for place in left:
        change = change_at(code, found[0], place)
        rows = rows + [added(row, change) for row in rows]
    return sorted(rows)


# Data that fit, with 0 at all free places that no sum tells.
def first_data(code, came, told):
    return [sign_told(code, came, told[place]) if place in told else 0 for place in code[1]]


# What is added to data that fit, so that the sign at this place, which is left, is another one and they still fit.
def change_at(code, told, left):
    changed = [place for place in told if has_mark(told[place][0], left)] + [left]
    return [1 if place in changed else 0 for place in code[1]]
