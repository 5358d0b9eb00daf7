"""Steps up from a place to a better one, their turns, and losses turned."""

from healhalves.errors import NoTurn
from healhalves.kinds import check_place, check_size, is_list_below, length_of
from healhalves.losses import check_loss


def is_step(size, one, other):
    return turn_of(size, one, other) is not None


def turn_of(size, one, other):
    check_size(size)
    check_place(size, one)
    check_place(size, other)
    if is_figure_set(size, one, other):
        return list(range(length_of(size)))
    lower = moved_figure(size, one, other)
    if lower is None:
        return None
    return [exchanged(spot, lower) for spot in range(length_of(size))]


def is_figure_set(size, one, other):
    figures = [length_of(number) for number in range(size)]
    return any([(one & figure) == 0 and one + figure == other for figure in figures])


# The figure 1 that moves up by one position, named by the number that it stands for, else None.
def moved_figure(size, one, other):
    for number in range(size - 1):
        lower = length_of(number)
        if has_lower_alone(one, lower) and one + lower == other:
            return lower
    return None


def has_lower_alone(number, lower):
    return (number & lower) != 0 and (number & (lower + lower)) == 0


def has_upper_alone(number, lower):
    return (number & lower) == 0 and (number & (lower + lower)) != 0


# The upper figure stands for twice as much as the lower one, so exchanging the two adds or takes the lower one.
def exchanged(spot, lower):
    if has_lower_alone(spot, lower):
        return spot + lower
    if has_upper_alone(spot, lower):
        return spot - lower
    return spot


def turned_loss(size, turn, loss):
    check_size(size)
    check_turn(size, turn)
    check_loss(size, loss)
    return sorted([turn[spot] for spot in loss])


def check_turn(size, turn):
    length = length_of(size)
    if not is_list_below(turn, length) or sorted(turn) != list(range(length)):
        raise NoTurn("a turn is a list of all spots of the size, each once, in any order")
