"""Losses: their halves, and the places that are lost by them."""

from healhalves.errors import NoLoss
from healhalves.kinds import check_size, is_rising, length_of


def check_loss(size, loss):
    if not is_rising(loss, length_of(size)):
        raise NoLoss("a loss is a rising list of unlike spots of the size")


def halves_lost(size, loss):
    check_size(size)
    check_loss(size, loss)
    return halves_below(length_of(size) // 2, loss)


def halves_below(half, loss):
    either = [spot for spot in range(half) if spot in loss or spot + half in loss]
    both = [spot for spot in range(half) if spot in loss and spot + half in loss]
    return (either, both)


def places_lost(size, loss):
    check_size(size)
    check_loss(size, loss)
    return lost_below(length_of(size), loss)


def lost_below(length, loss):
    # In a word of one sign the number of the place and that of the spot are the same.
    if length == 1:
        return list(loss)
    half = length // 2
    halves = halves_below(half, loss)
    return lost_below(half, halves[0]) + [half + place for place in lost_below(half, halves[1])]
