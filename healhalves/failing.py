"""The share of failing of a code on a road, and its bounds."""

from healhalves.codes import check_code
from healhalves.errors import NoRoad, TooMany
from healhalves.fractions import fraction, is_less, plus
from healhalves.kinds import length_of
from healhalves.losses import places_lost
from healhalves.shares import bottom_of_chances, check_road, shares_of, top_of_chance

# Of the next size there are 65536 losses to go through, and then 4294967296.
GREATEST_SIZE_TOLD = 3


def check_road_of(code, road):
    check_road(road)
    if len(road) != length_of(code[0]):
        raise NoRoad("a road of this code is as long as its words")


def failing_of(code, road):
    check_code(code)
    check_road_of(code, road)
    if code[0] > GREATEST_SIZE_TOLD:
        raise TooMany("the share of failing is told of codes of a size from 1 to 3")
    failing = [loss for loss in all_losses(len(road)) if loses_some(code, loss)]
    return fraction(sum([top_of_chance(road, loss) for loss in failing]), bottom_of_chances(road))


def all_losses(length):
    losses = [[]]
    for spot in range(length):
        losses = losses + [loss + [spot] for loss in losses]
    return losses


def loses_some(code, loss):
    lost = places_lost(code[0], loss)
    return any([place in lost for place in code[1]])


def bounds_of(code, road):
    check_code(code)
    check_road_of(code, road)
    shares = shares_of(road)
    greatest = (0, 1)
    together = (0, 1)
    for place in code[1]:
        together = plus(together, shares[place])
        if is_less(greatest, shares[place]):
            greatest = shares[place]
    return (greatest, together)
