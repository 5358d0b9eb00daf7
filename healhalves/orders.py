"""Papers on a worse and a better place: whether anything is one, and one that is told."""

from healhalves.kinds import check_place, check_size, has_form, is_list_below, is_whole, length_of, ones_of
from healhalves.steps import turn_of


def lets_order(size, worse, better, paper):
    check_size(size)
    check_place(size, worse)
    check_place(size, better)
    if has_form(paper, "row", 3):
        return lets_row(size, worse, better, paper[1], paper[2])
    if has_form(paper, "ones", 2):
        return lets_ones(size, worse, better, paper[1])
    return False


def lets_row(size, worse, better, places, turn):
    length = length_of(size)
    if not is_list_below(places, length) or not is_list_below(turn, length):
        return False
    if places == [] or places[0] != worse or places[-1] != better:
        return False
    return turn == turn_along(size, places)


# Where the spots come to by the turns of all steps, that of the last one first; None where some are no steps.
def turn_along(size, places):
    turn = list(range(length_of(size)))
    for number in range(len(places) - 1, 0, -1):
        step = turn_of(size, places[number - 1], places[number])
        if step is None:
            return None
        turn = [step[spot] for spot in turn]
    return turn


def lets_ones(size, worse, better, many):
    return is_whole(many) and 1 <= many <= size and has_fewer_ones(size, worse, better, many)


def has_fewer_ones(size, worse, better, many):
    below = size - many
    return ones_of(better >> below) < ones_of(worse >> below)


def order_paper(size, worse, better):
    check_size(size)
    check_place(size, worse)
    check_place(size, better)
    for many in range(1, size + 1):
        if has_fewer_ones(size, worse, better, many):
            return ("ones", many)
    places = row_between(worse, better)
    return ("row", places, turn_along(size, places))


def row_between(worse, better):
    places = [worse]
    while places[-1] != better:
        places.append(place_ahead(places[-1], better))
    return places


# Where of no top figures fewer are 1 in the better place, the topmost unlike figure is 1 in it. The step that brings
# a 1 of this place nearer to there, or makes one there if none is below, leaves it so that of no top figures fewer
# are 1 in the better place; and as every step makes the place greater, the better one is come to.
def place_ahead(place, better):
    unlike = top_figure(place ^ better)
    below = place % unlike
    if below == 0:
        return place + unlike
    return place + top_figure(below)


def top_figure(number):
    return length_of(number.bit_length() - 1)
