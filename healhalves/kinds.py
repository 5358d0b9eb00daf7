"""The kinds that several files ask for: whole numbers, sizes, places and spots, lists of them, forms of papers."""

from healhalves.errors import NoPlace, NoSize

# 2 taken size times as a factor, for each size; the 1 ahead is the list of one sign, at the end of all halving.
LENGTHS = (1, 2, 4, 8, 16, 32)
GREATEST_SIZE = 5


def is_whole(thing):
    # True and False are ints to Python, but no whole numbers here.
    return isinstance(thing, int) and not isinstance(thing, bool)


def is_number_below(thing, end):
    return is_whole(thing) and 0 <= thing < end


def is_list_below(thing, end):
    return isinstance(thing, list) and all([is_number_below(number, end) for number in thing])


def is_rising(thing, end):
    if not isinstance(thing, list):
        return False
    least = 0
    for number in thing:
        if not is_number_below(number, end) or number < least:
            return False
        least = number + 1
    return True


# The first part may be anything, even what says that it equals every word: so its kind is asked first.
def has_form(paper, word, parts):
    if not isinstance(paper, tuple) or len(paper) != parts:
        return False
    return isinstance(paper[0], str) and paper[0] == word


def length_of(size):
    return LENGTHS[size]


def is_word_length(number):
    return number in LENGTHS[1:]


def size_of_length(length):
    return LENGTHS.index(length)


def ones_of(number):
    return sum([1 for figure in LENGTHS if (number & figure) != 0])


def is_size(thing):
    return is_whole(thing) and 1 <= thing <= GREATEST_SIZE


def check_size(size):
    if not is_size(size):
        raise NoSize("a size is a whole number from 1 to 5")


def check_place(size, number):
    if not is_number_below(number, length_of(size)):
        raise NoPlace("a place or a spot is a whole number from 0 to one less than a word of the size has signs")
