"""Nets of sums: what is one, running it, turning it about, and the halving net."""

from healhalves.errors import NoCore, NoNet
from healhalves.kinds import check_size, is_number_below, length_of
from healhalves.signs import is_row, sum_of

MOST_ROUNDS = 40


def is_net(size, thing):
    check_size(size)
    if not isinstance(thing, list) or len(thing) > MOST_ROUNDS:
        return False
    return all([is_net_round(length_of(size), part) for part in thing])


def is_net_round(length, thing):
    if not isinstance(thing, list):
        return False
    used = {}
    for step in thing:
        if not is_net_step(length, step) or step[0] in used or step[1] in used:
            return False
        used[step[0]] = True
        used[step[1]] = True
    return True


def is_net_step(length, thing):
    if not isinstance(thing, tuple) or len(thing) != 2:
        return False
    return all([is_number_below(spot, length) for spot in thing]) and thing[0] != thing[1]


def check_net(size, net):
    if not is_net(size, net):
        raise NoNet("a net is a list of at most 40 lists of steps (a, b), no spot twice in a round")


def run(size, net, row):
    check_size(size)
    check_net(size, net)
    if not is_row(row, length_of(size)):
        raise NoCore("a net is run on a list of as many signs as a word of its size has")
    return run_steps(net, row)


def run_steps(net, row):
    signs = list(row)
    for steps in net:
        for step in steps:
            signs[step[0]] = sum_of([signs[step[0]], signs[step[1]]])
    return signs


# Within a round no spot stands twice, so its steps undo themselves in any order and stay as they are.
def turned_net(size, net):
    check_size(size)
    check_net(size, net)
    return [list(steps) for steps in reversed(net)]


def halving_net(size):
    check_size(size)
    length = length_of(size)
    return [halving_round(length, length_of(number)) for number in range(size)]


def halving_round(length, figure):
    return [(spot, spot + figure) for spot in range(length) if (spot & figure) == 0]
