import itertools
import random
import unittest
from fractions import Fraction

from healhalves.choosing import best_places
from healhalves.codes import word_for
from healhalves.errors import Clash, NoCame, NoCore, NoNumber, NoPlan, NoRoad, NoSize
from healhalves.fractions import is_fraction, is_share
from healhalves.plans import best_by, came_by, is_plan, plan_for, road_by, sent_by, shares_by
from healhalves.shares import shares_of
from tests.helping import (
    NO_NUMBERS, NO_SHARES, NO_SIZES, SIZES, Agreeable, FairCase, all_rows, cores_for, pair, reaches_by_figures,
    shares_by_fractions, single, word_by_reach,
)

ENDS = [(0, 1), (1, 1)]
SHARES = ENDS + [(1, 2), (1, 3), (2, 3), (3, 4), (1, 10), (123456789011, 999999999989)]


def reached_up(size, spots):
    """All numbers that, as places, reach one of the spots."""
    return [k for k in range(2 ** size) if any(reaches_by_figures(size, k, spot) for spot in spots)]


def drawn_plans(size, many=10):
    draw = random.Random(f"plans {size}")
    length = 2 ** size
    plans = [(size, [0] * length, []), (size, [6] * length, []), (size, [0] * length, list(range(length)))]
    for _ in range(many):
        known = reached_up(size, draw.sample(range(length), draw.randrange(min(3, length))))
        sendings = [0 if spot in known else draw.choice([0, 1, 1, 1, 2, 3, 6]) for spot in range(length)]
        plans.append((size, sendings, known))
    return plans


def plans_for(size):
    length = 2 ** size
    lengths = sorted({1, length - 1, length, length + 1, 2 * length, 3 * length - 1, 6 * length})
    return drawn_plans(size) + [plan_for(size, many) for many in lengths]


def spots_sent(plan):
    return [spot for times in range(1, 7) for spot in range(2 ** plan[0]) if plan[1][spot] >= times]


def no_plans():
    plan = (2, [1, 2, 0, 0], [2, 3])
    things = NO_NUMBERS + [0, 1, 2, "1200", list(plan), plan[:2], plan[1:], plan + (None,), plan + ([],), (plan,), [plan]]
    things += [plan[::-1], (), (2,), (None, None, None), {2: plan}, (2, plan), (2, [2, 3], [1, 2, 0, 0])]
    things += [(size,) + plan[1:] for size in NO_SIZES + [1, 3, 4, 5]] + [(0, [1], []), (6, [1] * 64, [])]
    things += [(size, [1] * (2 ** size - 1), []) for size in SIZES] + [(size, [1] * (2 ** size + 1), []) for size in SIZES]
    # A known spot that is sent, and a known number left out that reaches one.
    things += [(2, [1, 2, 1, 0], [2, 3]), (2, [1, 2, 0, 6], [2, 3]), (2, [0, 0, 0, 1], [0, 1, 2, 3])]
    things += [(2, [1, 0, 0, 0], [2]), (2, [1, 0, 0, 0], [1]), (2, [1, 0, 0, 0], [1, 2]), (2, [0] * 4, [0, 1, 2])]
    things += [(2, [0] * 4, [0]), (2, [0] * 4, [0, 3]), (2, [0] * 4, [0, 1, 3]), (1, [0, 1], [0]), (1, [0, 0], [0])]
    things += [(3, [1] * 4 + [0] * 4, known) for known in ([4], [4, 5], [4, 5, 6], [4, 7], [5], [5, 6], [4, 5, 7], [6])]
    for thing in NO_NUMBERS + [-1, 7, 8, 10 ** 59, -(10 ** 59), "2", [1]]:
        things += [(2, [thing, 2, 0, 0], [2, 3]), (2, [1, thing, 0, 0], [2, 3]), (2, [1, 2, 0, thing], [2, 3])]
        things += [(2, [1, 1, 1, thing], []), (1, [thing, 1], [])]
    for thing in NO_NUMBERS + [-1, 4, 5, 10 ** 59]:
        things += [(2, [1, 2, 0, 0], [2, thing]), (2, [1, 2, 0, 0], [thing, 3]), (2, [0] * 4, [0, 1, 2, 3, thing])]
    things += [(2, sendings, [2, 3]) for sendings in NO_NUMBERS + [(1, 2, 0, 0), "1200", {0: 1, 1: 2, 2: 0, 3: 0}, [[1, 2, 0, 0]]]]
    nones = [thing for thing in NO_NUMBERS if isinstance(thing, Agreeable) or thing != []]
    things += [(2, [1, 2, 0, 0], known) for known in nones + [(2, 3), "23", {2: 2, 3: 3}, {2, 3}, [3, 2], [2, 2, 3], [2, 3, 3]]]
    return things + [(2, [1, 2, 0, 0], [[2, 3]]), (2, [1, 2, 0, 0], [[2], [3]]), (2, [1, 2, 0, 0], ())]


class IsPlanTest(FairCase):
    def test_by_hand(self):
        self.assertIs(self.fair(is_plan, (2, [1, 2, 0, 0], [2, 3])), True)
        self.assertIs(self.fair(is_plan, (2, [1, 2, 0, 0], [3])), True)
        self.assertIs(self.fair(is_plan, (2, [1, 2, 0, 0], [])), True)
        self.assertIs(self.fair(is_plan, (2, [1, 2, 0, 0], [2])), False)
        self.assertIs(self.fair(is_plan, (2, [6, 0, 6, 0], [1, 3])), True)
        self.assertIs(self.fair(is_plan, (2, [7, 0, 6, 0], [1, 3])), False)
        self.assertIs(self.fair(is_plan, (1, [0, 0], [0, 1])), True)
        self.assertIs(self.fair(is_plan, (1, [0, 0], [])), True)

    def test_all_known_spots_of_small_sizes(self):
        for size in (1, 2, 3):
            for row in all_rows(2 ** size):
                known = [spot for spot in range(2 ** size) if row[spot]]
                wanted = reached_up(size, known) == known
                self.assertIs(is_plan((size, [0] * 2 ** size, known)), wanted)
                self.assertIs(is_plan((size, [1 - sign for sign in row], known)), wanted)
                for spot in known:
                    self.assertIs(is_plan((size, single(2 ** size, spot), known)), False)

    def test_plans_of_each_size(self):
        for size in SIZES:
            for plan in plans_for(size):
                self.assertIs(self.fair(is_plan, plan), True)
                sendings = plan[1]
                for spot in range(2 ** size):
                    for many in (-1, 0, 3, 6, 7, True):
                        other = (size, sendings[:spot] + [many] + sendings[spot + 1:], plan[2])
                        wanted = many is not True and (many == 0 or (0 < many < 7 and spot not in plan[2]))
                        self.assertIs(is_plan(other), wanted, other)

    def test_what_is_none(self):
        for thing in no_plans():
            self.assertIs(is_plan(thing), False, thing)

    def test_anything_is_answered_and_nothing_is_changed(self):
        for thing in no_plans()[::5]:
            self.fair(is_plan, thing)

    def test_a_core_with_0_at_known_numbers_has_a_word_with_0_there(self):
        for size in SIZES:
            for plan in plans_for(size):
                for core in cores_for(size, 5)[-5:]:
                    core = [0 if place in plan[2] else sign for place, sign in enumerate(core)]
                    self.assertFalse(any(word_by_reach(size, core)[spot] for spot in plan[2]))


class PlanForTest(FairCase):
    def test_by_hand(self):
        self.assertSame(self.fair(plan_for, 2, 1), (2, [1, 0, 0, 0], [1, 2, 3]))
        self.assertSame(self.fair(plan_for, 2, 3), (2, [1, 1, 1, 0], [3]))
        self.assertSame(self.fair(plan_for, 2, 4), (2, [1, 1, 1, 1], []))
        self.assertSame(self.fair(plan_for, 2, 5), (2, [2, 1, 1, 1], []))
        self.assertSame(self.fair(plan_for, 2, 23), (2, [6, 6, 6, 5], []))
        self.assertSame(self.fair(plan_for, 2, 24), (2, [6, 6, 6, 6], []))

    def test_each_size_and_each_length(self):
        for size in SIZES:
            length = 2 ** size
            for many in range(1, 6 * length + 1):
                plan = plan_for(size, many)
                self.assertIs(is_plan(plan), True)
                sendings = [many // length + (spot < many % length) for spot in range(length)]
                self.assertSame(plan, (size, sendings, list(range(many, length))))
                self.assertEqual(len(sent_by(plan, [1] * length)), many)

    def test_nothing_is_kept(self):
        for size in SIZES:
            for many in (1, 2 ** size - 1, 2 ** size, 2 ** size + 1, 6 * 2 ** size):
                self.fair(plan_for, size, many)

    def test_no_size_goes_first(self):
        for size in NO_SIZES:
            for length in (1, 0, None, True, 999):
                self.assertRefused(NoSize, plan_for, size, length)

    def test_no_number(self):
        for size in SIZES:
            for length in NO_NUMBERS + [0, -1, -8, 6 * 2 ** size + 1, 7 * 2 ** size, 10 ** 59, -(10 ** 59)]:
                self.assertRefused(NoNumber, plan_for, size, length)


class SendingTest(FairCase):
    def test_by_hand(self):
        self.assertSame(self.fair(sent_by, (2, [1, 3, 0, 2], []), [1, 0, 1, 1]), [1, 0, 1, 0, 1, 0])
        self.assertSame(self.fair(sent_by, (2, [1, 0, 1, 0], [1, 3]), [1, 0, 0, 0]), [1, 0])
        self.assertSame(self.fair(sent_by, (2, [0] * 4, []), [1, 0, 0, 0]), [])
        self.assertSame(self.fair(came_by, (2, [1, 3, 0, 2], []), [1, None, None, 0, 1, 0]), [1, 0, None, 1])
        self.assertSame(self.fair(came_by, (2, [1, 0, 1, 0], [1, 3]), [None, 1]), [None, 0, 1, 0])
        self.assertSame(self.fair(came_by, (2, [0] * 4, []), []), [None] * 4)
        self.assertSame(self.fair(came_by, (2, [0] * 4, [0, 1, 2, 3]), []), [0] * 4)
        self.assertRefused(Clash, came_by, (2, [1, 3, 0, 2], []), [1, 1, None, 0, 1, 0])

    def test_in_the_order_of_sending(self):
        for size in SIZES:
            for plan in plans_for(size):
                for word in cores_for(size)[-6:]:
                    self.assertSame(self.fair(sent_by, plan, word), [word[spot] for spot in spots_sent(plan)])

    def test_there_and_back_with_signs_lost(self):
        draw = random.Random("sent")
        for size in SIZES:
            for plan in plans_for(size):
                code = (size, [k for k in range(2 ** size) if k not in plan[2]], [0] * len(plan[2]))
                for part in (0, 1, 2, 3):
                    word = word_for(code, [draw.randrange(2) for _ in code[1]]) if code[1] else [0] * 2 ** size
                    things = [None if draw.randrange(3) < part else sign for sign in sent_by(plan, word)]
                    came = self.fair(came_by, plan, things)
                    heard = {spot for spot, sign in zip(spots_sent(plan), things) if sign is not None}
                    wanted = [word[spot] if spot in heard or spot in plan[2] else None for spot in range(2 ** size)]
                    self.assertSame(came, wanted)

    def test_known_spots_are_0_whatever_word_is_sent(self):
        for size in SIZES:
            for plan in plans_for(size):
                word = [1] * 2 ** size
                came = came_by(plan, sent_by(plan, word))
                wanted = [0 if spot in plan[2] else 1 if plan[1][spot] else None for spot in range(2 ** size)]
                self.assertSame(came, wanted)

    def test_unlike_signs_of_one_spot(self):
        for size in SIZES:
            for plan in plans_for(size):
                spots = spots_sent(plan)
                things = sent_by(plan, cores_for(size)[-1])
                for at in range(0, len(spots), 1 + len(spots) // 12):
                    other = things[:at] + [1 - things[at]] + things[at + 1:]
                    lone = [thing if k == at or spots[k] != spots[at] else None for k, thing in enumerate(other)]
                    self.assertSame(came_by(plan, lone)[spots[at]], 1 - things[at])
                    if plan[1][spots[at]] > 1:
                        self.assertRefused(Clash, came_by, plan, other)
                    else:
                        self.assertSame(came_by(plan, other)[spots[at]], 1 - things[at])

    def test_all_that_can_come_of_a_small_plan(self):
        plan = (1, [2, 3], [])
        for things in itertools.product([0, 1, None], repeat=5):
            signs = [{sign for spot, sign in zip((0, 1, 0, 1, 1), things) if spot == k and sign is not None} for k in (0, 1)]
            if any(len(some) == 2 for some in signs):
                self.assertRefused(Clash, came_by, plan, list(things))
            else:
                self.assertSame(came_by(plan, list(things)), [some.pop() if some else None for some in signs])

    def test_no_plan_goes_first(self):
        for plan in no_plans():
            for row in ([0, 0, 0, 0], [0, 0, 1], None, [2], []):
                self.assertRefused(NoPlan, sent_by, plan, row)
                self.assertRefused(NoPlan, came_by, plan, row)

    def test_no_core(self):
        for size in SIZES:
            row = [0] * 2 ** size
            for plan in (plan_for(size, 1), plan_for(size, 2 ** size), (size, row, [])):
                things = NO_NUMBERS + [0, 1, tuple(row), "0" * 2 ** size, row[1:], row + [0], row + row, [row], row[:-1]]
                things += [row[1:] + [thing] for thing in NO_NUMBERS + [2, -1]]
                for word in things + [[thing] + row[1:] for thing in NO_NUMBERS + [2, -1]]:
                    self.assertRefused(NoCore, sent_by, plan, word)

    def test_no_came_goes_ahead_of_clash(self):
        for size in SIZES:
            for plan in (plan_for(size, 1), plan_for(size, 2 ** size), plan_for(size, 6 * 2 ** size)):
                row = [0, 1] * 3 * 2 ** size
                row = row[: len(spots_sent(plan))]
                things = [thing for thing in NO_NUMBERS if not isinstance(thing, list)]
                things += [[], 0, 1, tuple(row), row + [0], row[1:], [row], row + [None], "0" * len(row), {0: 0}]
                for thing in [thing for thing in NO_NUMBERS if thing is not None] + [2, -1, "?", 10 ** 59]:
                    things += [row[1:] + [thing], [thing] + row[1:]]
                for thing in things:
                    self.assertRefused(NoCame, came_by, plan, thing)

    def test_nothing_is_sent(self):
        plan = (2, [0] * 4, [])
        for thing in ([None], [0], (), "", None, 0, {}):
            self.assertRefused(NoCame, came_by, plan, thing)
            self.assertRefused(NoRoad, road_by, plan, thing)


def road_by_products(plan, shares):
    road = [Fraction(0) if spot in plan[2] else Fraction(1) for spot in range(2 ** plan[0])]
    for spot, share in zip(spots_sent(plan), shares):
        road[spot] *= Fraction(*share)
    return road


def drawn_shares(draw, plan, kinds=SHARES):
    return [draw.choice(kinds) for _ in spots_sent(plan)]


class RoadsTest(FairCase):
    def test_by_hand(self):
        plan = (2, [1, 3, 0, 0], [3])
        shares = [(1, 2), (1, 3), (1, 4), (2, 5)]
        self.assertSame(self.fair(road_by, plan, shares), [(1, 2), (1, 30), (1, 1), (0, 1)])
        self.assertSame(self.fair(road_by, (1, [0, 0], []), []), [(1, 1), (1, 1)])
        self.assertSame(self.fair(road_by, (1, [0, 0], [0, 1]), []), [(0, 1), (0, 1)])
        self.assertSame(self.fair(shares_by, (1, [2, 1], []), [(1, 2), (1, 3), (1, 2)]), [(1, 2), (1, 12)])
        self.assertSame(self.fair(best_by, (2, [1, 1, 1, 0], [3]), [(1, 2)] * 3, 1), [2])
        self.assertSame(self.fair(best_by, (2, [1, 1, 1, 0], [3]), [(1, 2)] * 3, 3), [0, 1, 2])
        self.assertRefused(NoNumber, best_by, (2, [1, 1, 1, 0], [3]), [(1, 2)] * 3, 4)

    def test_against_products_and_halves(self):
        draw = random.Random("roads")
        for size in SIZES:
            for plan in plans_for(size):
                for _ in range(2):
                    shares = drawn_shares(draw, plan)
                    road = road_by_products(plan, shares)
                    told = self.fair(road_by, plan, shares) if size <= 4 else road_by(plan, shares)
                    self.assertSame(told, [pair(share) for share in road])
                    self.assertTrue(all(is_fraction(share) for share in told))
                    self.assertSame(shares_by(plan, shares), [pair(share) for share in shares_by_fractions(road)])

    def test_best_places_against_a_sorting(self):
        draw = random.Random("best")
        for size in SIZES:
            for plan in plans_for(size):
                shares = drawn_shares(draw, plan, SHARES[:7])
                losses = shares_by_fractions(road_by_products(plan, shares))
                places = [place for place in range(2 ** size) if place not in plan[2]]
                order = sorted(places, key=lambda place: (losses[place], -place))
                for many in range(1, len(places) + 1) if size <= 3 else sorted({1, 2, len(places) // 2, len(places)}):
                    if 1 <= many <= len(places):
                        self.assertSame(best_by(plan, shares, many), sorted(order[:many]))

    def test_each_spot_sent_once_is_the_road_itself(self):
        draw = random.Random("once")
        for size in SIZES:
            plan = plan_for(size, 2 ** size)
            road = drawn_shares(draw, plan)
            self.assertSame(road_by(plan, road), road)
            self.assertSame(shares_by(plan, road), shares_of(road))
            for many in (1, 2 ** size - 1, 2 ** size):
                self.assertSame(best_by(plan, road, many), best_places(road, many))

    def test_fractions_of_more_figures_than_shares_have(self):
        plan = plan_for(1, 12)
        shares = [(123456789011, 999999999989)] * 12
        road = road_by(plan, shares)
        self.assertFalse(any(is_share(share) for share in road))
        self.assertRefused(NoRoad, shares_of, road)
        share = Fraction(123456789011, 999999999989) ** 6
        self.assertSame(shares_by(plan, shares), [pair(2 * share - share * share), pair(share * share)])
        self.assertSame(best_by(plan, shares, 1), [1])

    def test_nothing_is_changed(self):
        draw = random.Random("changed")
        for size in SIZES:
            for plan in plans_for(size)[::4]:
                shares = drawn_shares(draw, plan, SHARES[:7])
                self.fair(road_by, plan, shares)
                self.fair(shares_by, plan, shares)
                if len(plan[2]) < 2 ** size:
                    self.fair(best_by, plan, shares, 1)

    def test_no_plan_goes_first(self):
        for plan in no_plans():
            for shares in ([(1, 2)] * 3, [(1, 2)] * 4, None, []):
                self.assertRefused(NoPlan, road_by, plan, shares)
                self.assertRefused(NoPlan, shares_by, plan, shares)
                for many in (1, 0, None):
                    self.assertRefused(NoPlan, best_by, plan, shares, many)

    def test_no_road_goes_ahead_of_no_number(self):
        half = (1, 2)
        for size in SIZES:
            for plan in (plan_for(size, 1), plan_for(size, 2 ** size + 1), drawn_plans(size)[5]):
                many = len(spots_sent(plan))
                things = [thing for thing in NO_NUMBERS if not isinstance(thing, list)]
                things += [0, 1, half, tuple([half] * many) + (half,), [half] * (many + 1), [[half] * many], [half, half] * 300]
                if many:
                    things += [[], [half] * (many - 1), tuple([half] * many)]
                    for share in NO_SHARES:
                        things += [[share] + [half] * (many - 1), [half] * (many - 1) + [share]]
                for shares in things:
                    self.assertRefused(NoRoad, road_by, plan, shares)
                    self.assertRefused(NoRoad, shares_by, plan, shares)
                    for number in (1, 0, None, 99):
                        self.assertRefused(NoRoad, best_by, plan, shares, number)

    def test_no_number(self):
        for size in SIZES:
            for plan in plans_for(size)[:8]:
                shares = [(1, 2)] * len(spots_sent(plan))
                most = 2 ** size - len(plan[2])
                for many in NO_NUMBERS + [0, -1, most + 1, 2 ** size + 1, 10 ** 59]:
                    self.assertRefused(NoNumber, best_by, plan, shares, many)


if __name__ == "__main__":
    unittest.main()
