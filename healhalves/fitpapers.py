"""Papers on what came: whether anything is one, and one that is told."""

from healhalves.codes import check_code, fixed_signs, word_for
from healhalves.fitting import first_data, first_slip, numbers_of, solved, sums_that_came
from healhalves.kinds import has_form, is_rising, length_of
from healhalves.lookers import sum_at
from healhalves.reading import check_came
from healhalves.signs import is_row, sum_of


def lets_fit(code, came, paper):
    check_code(code)
    check_came(code[0], came)
    if has_form(paper, "fits", 2):
        return lets_data(code, came, paper[1])
    if has_form(paper, "none", 3):
        return lets_none(code, came, paper[1], paper[2])
    return False


def lets_data(code, came, data):
    if not is_row(data, len(code[1])):
        return False
    return all([other is None or sign == other for sign, other in zip(word_for(code, data), came)])


def lets_none(code, came, spots, places):
    length = length_of(code[0])
    fixed = fixed_signs(code)
    if not is_rising(spots, length) or not is_rising(places, length):
        return False
    if any([came[spot] is None for spot in spots]) or any([place not in fixed for place in places]):
        return False
    if sum_of([came[spot] for spot in spots] + [fixed[place] for place in places]) == 0:
        return False
    # Every core is a sum of cores with a single 1, so both sums are the same for all of them if for these.
    return all([sum_at(place, spots, places) == 0 for place in range(length)])


def fit_paper(code, came):
    check_code(code)
    check_came(code[0], came)
    found = solved(code, sums_that_came(code, came))
    slip = first_slip(code, came, found[1])
    if slip is None:
        return ("fits", first_data(code, came, found[0]))
    return ("none", numbers_of(slip[1]), numbers_of(slip[0]))
