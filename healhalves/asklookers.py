"""Whether anything is a paper of asking."""

from healhalves.codes import check_code
from healhalves.kinds import has_form, is_rising, length_of
from healhalves.lookers import sums_to
from healhalves.losses import check_loss
from healhalves.signs import is_row
from healhalves.words import word_of


def lets_asking(code, loss, paper):
    check_code(code)
    check_loss(code[0], loss)
    if not has_form(paper, "asked", 4):
        return False
    spots = paper[1]
    if not is_rising(spots, length_of(code[0])) or any([spot not in loss for spot in spots]):
        return False
    return lets_cores(code, loss, spots, paper[2]) and lets_rows(code, loss, spots, paper[3])


def lets_cores(code, loss, spots, cores):
    if not isinstance(cores, list) or len(cores) != len(spots):
        return False
    return all([lets_core(code, loss, spots, own, core) for own, core in zip(spots, cores)])


def lets_core(code, loss, spots, own, core):
    length = length_of(code[0])
    if not is_row(core, length) or any([core[place] == 1 for place in range(length) if place not in code[1]]):
        return False
    word = word_of(core)
    known = [spot for spot in range(length) if spot not in loss or spot in spots]
    return [spot for spot in known if word[spot] == 1] == [own]


def lets_rows(code, loss, spots, rows):
    if not isinstance(rows, list) or len(rows) != len(code[1]):
        return False
    unknown = [spot for spot in loss if spot not in spots]
    return all([lets_row(code, unknown, place, row) for place, row in zip(code[1], rows)])


def lets_row(code, unknown, place, row):
    if not isinstance(row, tuple) or len(row) != 2:
        return False
    some = row[0]
    places = row[1]
    length = length_of(code[0])
    if not is_rising(some, length) or not is_rising(places, length):
        return False
    if any([spot in unknown for spot in some]) or any([other in code[1] for other in places]):
        return False
    return sums_to(length, place, some, places)
