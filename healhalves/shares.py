"""Roads: the chance of a loss, the halves of a road, and the places' shares of loss."""

from healhalves.errors import NoRoad
from healhalves.fractions import fraction, is_share, minus, plus, times
from healhalves.kinds import is_word_length, size_of_length
from healhalves.losses import check_loss


def check_road(road):
    if not is_road(road):
        raise NoRoad("a road is a list of 2, 4, 8, 16 or 32 shares")


def is_road(thing):
    return isinstance(thing, list) and is_word_length(len(thing)) and are_shares(thing, len(thing))


def are_shares(thing, many):
    return isinstance(thing, list) and len(thing) == many and all([is_share(share) for share in thing])


def chance_of(road, loss):
    check_road(road)
    check_loss(size_of_length(len(road)), loss)
    return fraction(top_of_chance(road, loss), bottom_of_chances(road))


# All losses' chances on a road are told with the same bottom, so that they are summed without making fractions of them.
def top_of_chance(road, loss):
    top = 1
    for spot, share in enumerate(road):
        top = top * (share[0] if spot in loss else share[1] - share[0])
    return top


def bottom_of_chances(road):
    bottom = 1
    for share in road:
        bottom = bottom * share[1]
    return bottom


def halves_of(road):
    check_road(road)
    return halves_along(road)


# Takes fractions of however many figures: those of halves of halves soon have more than a share may have.
def halves_along(row):
    half = len(row) // 2
    worse = [either_lost(row[spot], row[half + spot]) for spot in range(half)]
    better = [times(row[spot], row[half + spot]) for spot in range(half)]
    return (worse, better)


def either_lost(one, other):
    return minus(plus(one, other), times(one, other))


def shares_of(road):
    check_road(road)
    return shares_along(road)


def shares_along(row):
    if len(row) == 1:
        return list(row)
    halves = halves_along(row)
    return shares_along(halves[0]) + shares_along(halves[1])
