"""The best places of a road."""

from healhalves.errors import NoNumber
from healhalves.fractions import is_less
from healhalves.kinds import is_whole
from healhalves.shares import check_road, shares_of


def best_places(road, many):
    check_road(road)
    check_many(many, len(road))
    return best_among(shares_of(road), list(range(len(road))), many)


def check_many(many, most):
    if not is_whole(many) or not 1 <= many <= most:
        raise NoNumber("so many best places as are told are at least one, and at most all")


def best_among(shares, places, many):
    return [place for place in places if many_ahead(shares, places, place) < many]


# How many of the places are put ahead of this one.
def many_ahead(shares, places, place):
    return sum([1 for other in places if is_ahead(shares, other, place)])


def is_ahead(shares, one, other):
    if shares[one] == shares[other]:
        return one > other
    return is_less(shares[one], shares[other])
