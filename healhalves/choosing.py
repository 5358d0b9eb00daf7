"""The best places of a road."""

from healhalves.errors import NoNumber
from healhalves.fractions import is_less
from healhalves.kinds import is_whole
from healhalves.shares import check_road, shares_of


def best_places(road, many):
    check_road(road)
    if not is_whole(many) or not 1 <= many <= len(road):
        raise NoNumber("so many best places as are told are at least one, and at most all")
    shares = shares_of(road)
    return [place for place in range(len(road)) if many_ahead(shares, place) < many]


# How many places are put ahead of this one.
def many_ahead(shares, place):
    return sum([1 for other in range(len(shares)) if is_ahead(shares, other, place)])


def is_ahead(shares, one, other):
    if shares[one] == shares[other]:
        return one > other
    return is_less(shares[one], shares[other])
