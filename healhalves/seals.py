"""Seals: sums put in among the data, that must be 0."""

from healhalves.codes import check_code, check_data
from healhalves.errors import NoData, NoSeals
from healhalves.fitting import data_told_by, marks_of, sums_that_came
from healhalves.kinds import is_rising
from healhalves.reading import check_came
from healhalves.signs import is_row, sum_of

MOST_SEALS = 8


def is_seals(code, thing):
    if not isinstance(thing, list) or len(thing) > MOST_SEALS:
        return False
    if not all([is_rising(seal, len(code[1])) and seal != [] for seal in thing]):
        return False
    return len(set(last_numbers(thing))) == len(thing)


def check_seals(code, seals):
    if not is_seals(code, seals):
        raise NoSeals("seals are at most eight rising lists of numbers of data's signs, no two with the same last one")


def last_numbers(seals):
    return [seal[-1] for seal in seals]


def plain_numbers(code, seals):
    return [number for number in range(len(code[1])) if number not in last_numbers(seals)]


def holds(code, seals, data):
    check_code(code)
    check_seals(code, seals)
    check_data(code, data)
    return all([sum_of([data[number] for number in seal]) == 0 for seal in seals])


def sealed(code, seals, plain):
    check_code(code)
    check_seals(code, seals)
    numbers = plain_numbers(code, seals)
    if not is_row(plain, len(numbers)):
        raise NoData("plain signs are a list of signs, one for each number that is no seal's last one")
    signs = dict(zip(numbers, plain))
    # A seal's numbers but the last are all below it, so they are there by then, other seals' last ones too.
    for seal in sorted(seals, key=last_number):
        signs[seal[-1]] = sum_of([signs[number] for number in seal[:-1]])
    return [signs[number] for number in range(len(code[1]))]


def last_number(seal):
    return seal[-1]


def plain_of(code, seals, data):
    check_code(code)
    check_seals(code, seals)
    check_data(code, data)
    return [data[number] for number in plain_numbers(code, seals)]


def all_that_hold(code, seals, came):
    check_code(code)
    check_seals(code, seals)
    check_came(code[0], came)
    return data_told_by(code, came, sums_that_came(code, came) + [sum_of_seal(code, seal) for seal in seals])


# The signs at the seal's places sum to those at no spots, which are 0.
def sum_of_seal(code, seal):
    return (marks_of([code[1][number] for number in seal]), 0)
