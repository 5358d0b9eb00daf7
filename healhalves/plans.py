"""Plans: words of other lengths, by leaving out what is known and by sending signs more often."""

from healhalves.choosing import best_among, check_many
from healhalves.errors import Clash, NoCame, NoCore, NoNumber, NoPlan, NoRoad
from healhalves.fractions import times
from healhalves.kinds import check_size, is_list_below, is_rising, is_size, is_whole, length_of
from healhalves.reading import is_came
from healhalves.shares import are_shares, shares_along
from healhalves.signs import is_row
from healhalves.words import is_reached

MOST_SENDINGS = 6


def is_plan(thing):
    if not isinstance(thing, tuple) or len(thing) != 3 or not is_size(thing[0]):
        return False
    length = length_of(thing[0])
    if not is_list_below(thing[1], MOST_SENDINGS + 1) or len(thing[1]) != length:
        return False
    return is_rising(thing[2], length) and all([is_known_rightly(thing[1], thing[2], spot) for spot in thing[2]])


def is_known_rightly(sendings, known, spot):
    reaching = [place for place in range(len(sendings)) if is_reached(place, spot)]
    return sendings[spot] == 0 and all([place in known for place in reaching])


def check_plan(plan):
    if not is_plan(plan):
        raise NoPlan("a plan is a tuple of a size, a list of how often each spot is sent, and a list of known spots")


# The spots of all signs that are sent, in order.
def sent_spots(plan):
    spots = []
    for number in range(MOST_SENDINGS):
        spots.extend([spot for spot, many in enumerate(plan[1]) if many > number])
    return spots


def sent_by(plan, word):
    check_plan(plan)
    if not is_row(word, length_of(plan[0])):
        raise NoCore("a word that is sent by this plan is a list of as many signs as the plan has spots")
    return [word[spot] for spot in sent_spots(plan)]


def plan_for(size, length):
    check_size(size)
    spots = length_of(size)
    if not is_whole(length) or not 1 <= length <= MOST_SENDINGS * spots:
        raise NoNumber("a length is at least 1, and at most six times as many as a word of the size has signs")
    # Of a length below all spots the first ones are sent once more than never.
    often = length // spots
    more = length % spots
    return (size, [often + 1] * more + [often] * (spots - more), list(range(length, spots)))


def came_by(plan, things):
    check_plan(plan)
    spots = sent_spots(plan)
    if not is_came(things, len(spots)):
        raise NoCame("what came of a sending is a list of as many things as are sent, each a sign or None")
    came = [0 if spot in plan[2] else None for spot in range(length_of(plan[0]))]
    for spot, thing in zip(spots, things):
        if came[spot] is None:
            came[spot] = thing
        elif thing is not None and thing != came[spot]:
            raise Clash("two unlike signs came of one spot")
    return came


def road_by(plan, shares):
    check_plan(plan)
    spots = sent_spots(plan)
    if not are_shares(shares, len(spots)):
        raise NoRoad("for the road of a plan there are as many shares as signs are sent")
    road = [(0, 1) if spot in plan[2] else (1, 1) for spot in range(length_of(plan[0]))]
    for spot, share in zip(spots, shares):
        road[spot] = times(road[spot], share)
    return road


def shares_by(plan, shares):
    return shares_along(road_by(plan, shares))


def best_by(plan, shares, many):
    road = road_by(plan, shares)
    places = [place for place in range(len(road)) if place not in plan[2]]
    check_many(many, len(places))
    return best_among(shares_along(road), places, many)
