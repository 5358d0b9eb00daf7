"""The word of a core, by halves, and which place reaches which spot."""

from healhalves.errors import NoCore
from healhalves.kinds import GREATEST_SIZE, check_place, check_size, length_of
from healhalves.signs import added, is_row


def word_of(core):
    if not is_core(core):
        raise NoCore("a core is a list of 2, 4, 8, 16 or 32 signs")
    return halved_word(core)


def is_core(thing):
    return any([is_row(thing, length_of(size)) for size in range(1, GREATEST_SIZE + 1)])


# Takes a row of one sign too, which is no core, but is where the halving ends.
def halved_word(row):
    if len(row) == 1:
        return list(row)
    half = len(row) // 2
    first = halved_word(row[:half])
    second = halved_word(row[half:])
    return added(first, second) + second


def reaches(size, place, spot):
    check_size(size)
    check_place(size, place)
    check_place(size, spot)
    return is_reached(place, spot)


def is_reached(place, spot):
    return (place & spot) == spot
