"""Whether anything is a paper on a place."""

from healhalves.kinds import check_place, check_size, has_form, is_rising, length_of
from healhalves.losses import check_loss
from healhalves.signs import is_row, sum_of
from healhalves.words import is_reached, word_of


def lets_paper(size, loss, place, paper):
    check_size(size)
    check_loss(size, loss)
    check_place(size, place)
    length = length_of(size)
    if has_form(paper, "told", 3):
        return lets_told(length, loss, place, paper[1], paper[2])
    if has_form(paper, "open", 2):
        return lets_unsure(length, loss, place, paper[1])
    return False


def lets_told(length, loss, place, spots, places):
    if not is_rising(spots, length) or not is_rising(places, place):
        return False
    return not any([spot in loss for spot in spots]) and sums_to(length, place, spots, places)


# Every core is a sum of cores with a single 1, so the row sums to the place for all of them if for these.
def sums_to(length, place, spots, places):
    return all([sum_at(other, spots, places) == (1 if other == place else 0) for other in range(length)])


# What the row sums to for the core with its single 1 at the place.
def sum_at(place, spots, places):
    return sum_of([1 for spot in spots if is_reached(place, spot)] + [1 for other in places if other == place])


def lets_unsure(length, loss, place, core):
    if not is_row(core, length) or 1 in core[:place] or core[place] == 0:
        return False
    word = word_of(core)
    return all([word[spot] == 0 for spot in range(length) if spot not in loss])
