"""Codes: what is one, the core and the word of data, the data of a core, and the least weight."""

from healhalves.errors import NoCode, NoCore, NoData
from healhalves.kinds import is_rising, is_size, length_of, ones_of
from healhalves.signs import is_row
from healhalves.words import word_of


def is_code(thing):
    if not isinstance(thing, tuple) or len(thing) != 3 or not is_size(thing[0]):
        return False
    length = length_of(thing[0])
    if not is_rising(thing[1], length) or thing[1] == []:
        return False
    return is_row(thing[2], length - len(thing[1]))


def check_code(code):
    if not is_code(code):
        raise NoCode("a code is a tuple of a size, a rising list of free places, and the others' signs")


def check_data(code, data):
    if not is_row(data, len(code[1])):
        raise NoData("data are a list of signs, one for each free place")


# The sign that each fixed place has, by the place.
def fixed_signs(code):
    others = [place for place in range(length_of(code[0])) if place not in code[1]]
    return dict(zip(others, code[2]))


def core_for(code, data):
    check_code(code)
    check_data(code, data)
    signs = fixed_signs(code)
    signs.update(dict(zip(code[1], data)))
    return [signs[place] for place in range(length_of(code[0]))]


def word_for(code, data):
    return word_of(core_for(code, data))


def data_of(code, core):
    check_code(code)
    if not is_row(core, length_of(code[0])):
        raise NoCore("a core of this code is a list of as many signs as its words have")
    fixed = fixed_signs(code)
    if any([core[place] != fixed[place] for place in fixed]):
        return None
    return [core[place] for place in code[1]]


def least_weight(code):
    check_code(code)
    # Of several places with as few ones the first is told, and free places rise.
    place = min(code[1], key=ones_of)
    return (length_of(ones_of(place)), place)
