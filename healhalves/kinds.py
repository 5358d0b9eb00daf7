"""The kinds that several files ask for: whole numbers, sizes, places and spots, rising lists."""

from healhalves.errors import NoPlace, NoSize

GREATEST_SIZE = 5
# 2 taken size times as a factor, for each size; the 1 ahead is the list of one sign, at the end of all halving.
LENGTHS = (1, 2, 4, 8, 16, 32)


def is_whole(thing):
    # True and False are ints to Python, but no whole numbers here.
    return isinstance(thing, int) and not isinstance(thing, bool)


def is_number_below(thing, end):
    return is_whole(thing) and 0 <= thing < end


def is_rising(thing, end):
    if not isinstance(thing, list):
        return False
    least = 0
    for number in thing:
        if not is_number_below(number, end) or number < least:
            return False
        least = number + 1
    return True


def length_of(size):
    return LENGTHS[size]


def check_size(size):
    if not is_whole(size) or not 1 <= size <= GREATEST_SIZE:
        raise NoSize("a size is a whole number from 1 to 5")


def check_place(size, number):
    if not is_number_below(number, length_of(size)):
        raise NoPlace("a place or a spot is a whole number from 0 to one less than a word of the size has signs")
