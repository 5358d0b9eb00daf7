"""What came of a word, and reading it one place behind another."""

from healhalves.codes import check_code, fixed_signs
from healhalves.errors import NoCame
from healhalves.kinds import length_of
from healhalves.losses import places_lost
from healhalves.papers import paper_on
from healhalves.signs import is_sign, sum_of


def is_came(thing, length):
    if not isinstance(thing, list) or len(thing) != length:
        return False
    return all([sign is None or is_sign(sign) for sign in thing])


def check_came(size, came):
    if not is_came(came, length_of(size)):
        raise NoCame("what came is a list of as many things as a word of the size has signs, each a sign or None")


def loss_of(came):
    return [spot for spot, sign in enumerate(came) if sign is None]


def read_one_by_one(code, came):
    check_code(code)
    check_came(code[0], came)
    loss = loss_of(came)
    lost = places_lost(code[0], loss)
    fixed = fixed_signs(code)
    core = []
    for place in range(length_of(code[0])):
        if place in lost:
            if place not in fixed:
                return ("lost", place)
            core.append(fixed[place])
        else:
            sign = told_sign(paper_on(code[0], loss, place), came, core)
            if place in fixed and sign != fixed[place]:
                return ("slip", place)
            core.append(sign)
    return ("read", [core[place] for place in code[1]])


def told_sign(paper, came, core):
    return sum_of([came[spot] for spot in paper[1]] + [core[place] for place in paper[2]])
