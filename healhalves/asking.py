"""By how much a code is open by a loss, and a paper of asking: which lost spots to ask again."""

from healhalves.codes import check_code
from healhalves.fitting import has_mark, marks_of, numbers_of, put_in, solved, sum_at_spot
from healhalves.kinds import length_of
from healhalves.losses import check_loss


def open_by(code, loss):
    check_code(code)
    check_loss(code[0], loss)
    return len(code[1]) - len(told_by_kept(code, loss))


def asking_paper(code, loss):
    check_code(code)
    check_loss(code[0], loss)
    told = told_by_kept(code, loss)
    free = marks_of(code[1])
    asked = []
    for spot in loss:
        less = put_in(told, free, sum_at_spot(code[0], spot))
        if (less[0] & free) != 0:
            asked.append(spot)
    # All spots together tell every place, so each free place is told by now.
    cores = [core_asked(code, told, spot) for spot in asked]
    return ("asked", asked, cores, [row_told(code, told[place]) for place in code[1]])


def told_by_kept(code, loss):
    kept = [spot for spot in range(length_of(code[0])) if spot not in loss]
    return solved(code, [sum_at_spot(code[0], spot) for spot in kept])[0]


# The core with 0 at all fixed places whose word has, of all spots kept or asked, 1 at this one alone: there a free
# place is 1 just where the spot has a part in its sum.
def core_asked(code, told, spot):
    places = [place for place in code[1] if has_mark(told[place][1], spot)]
    return [1 if place in places else 0 for place in range(length_of(code[0]))]


def row_told(code, one):
    return (numbers_of(one[1]), [place for place in numbers_of(one[0]) if place not in code[1]])
