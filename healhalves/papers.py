"""A paper on a place, made by halves."""

from healhalves.kinds import check_place, check_size, length_of
from healhalves.losses import check_loss, halves_below
from healhalves.signs import sum_of
from healhalves.words import halved_word, is_reached


def paper_on(size, loss, place):
    check_size(size)
    check_loss(size, loss)
    check_place(size, place)
    return paper_below(length_of(size), loss, place)


def paper_below(length, loss, place):
    if length == 1:
        return ("told", [0], []) if loss == [] else ("open", [1])
    half = length // 2
    halves = halves_below(half, loss)
    if place < half:
        return first_paper(half, loss, paper_below(half, halves[0], place))
    return second_paper(half, loss, paper_below(half, halves[1], place - half))


def first_paper(half, loss, paper):
    if paper[0] == "told":
        return first_told(half, paper[1], paper[2])
    return first_unsure(half, loss, paper[1])


def second_paper(half, loss, paper):
    if paper[0] == "told":
        return second_told(half, loss, paper[1], paper[2])
    return ("open", [0] * half + paper[1])


# A sign of the first half's word is the sum of the whole word's two signs there.
def first_told(half, spots, places):
    return ("told", spots + [half + spot for spot in spots], places)


# At a kept lower spot the second half's word must hide the first half's sign, which is 0 where the upper spot is
# kept too.
def first_unsure(half, loss, core):
    word = halved_word(core)
    hiding = [0 if spot in loss else word[spot] for spot in range(half)]
    return ("open", core + halved_word(hiding))


# A sign of the second half's word stands at the upper spot; where that is lost it is the sum of the sign at the
# lower spot and of the first half's sign there, whose places are all ahead.
def second_told(half, loss, spots, places):
    upper = [half + spot for spot in spots if half + spot not in loss]
    lower = [spot for spot in spots if half + spot in loss]
    ahead = [place for place in range(half) if sum_of([1 for spot in lower if is_reached(place, spot)]) == 1]
    return ("told", lower + upper, ahead + [half + place for place in places])
