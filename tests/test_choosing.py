import itertools
import unittest
from fractions import Fraction

from healhalves.choosing import best_places
from healhalves.errors import NoNumber, NoRoad
from healhalves.orders import order_paper
from healhalves.shares import shares_of
from tests.helping import NO_NUMBERS, SIZES, FairCase, no_roads, roads_for

ONES = ((1, 100), (1, 3), (1, 2), (9, 10))


def best_by_sorting(road, many):
    shares = [Fraction(*share) for share in shares_of(road)]
    return sorted(sorted(range(len(road)), key=lambda place: (shares[place], -place))[:many])


class BestPlacesTest(FairCase):
    def test_by_hand(self):
        self.assertSame(self.fair(best_places, [(1, 2), (1, 3)], 1), [1])
        self.assertSame(self.fair(best_places, [(1, 2), (1, 3)], 2), [0, 1])
        self.assertSame(self.fair(best_places, [(1, 2)] * 8, 4), [3, 5, 6, 7])
        self.assertSame(self.fair(best_places, [(0, 1)] * 4, 1), [3])
        self.assertSame(self.fair(best_places, [(1, 1)] * 4, 3), [1, 2, 3])
        self.assertSame(self.fair(best_places, [(0, 1), (1, 1), (0, 1), (1, 1)], 1), [3])
        self.assertSame(self.fair(best_places, [(0, 1), (1, 1), (0, 1), (1, 1)], 2), [1, 3])
        self.assertSame(self.fair(best_places, [(0, 1), (1, 1), (0, 1), (1, 1)], 3), [1, 2, 3])

    def test_one_to_all_against_a_sorting(self):
        for size in SIZES:
            for road in roads_for(size):
                for many in range(1, 2 ** size + 1) if size <= 3 else (1, 2, 7, 2 ** size - 1, 2 ** size):
                    self.assertSame(best_places(road, many), best_by_sorting(road, many))

    def test_like_and_unlike_shares(self):
        """Where a sign is surely lost or kept at some spots, many places have like shares."""
        for road in ([(0, 1)] * 16 + [(1, 2)] * 16, [(1, 1)] * 16 + [(1, 2)] * 16, [(1, 2), (0, 1), (1, 1), (1, 3)] * 8):
            self.assertLess(len(set(shares_of(road))), 32)
            for many in range(1, 33):
                self.assertSame(best_places(road, many), best_by_sorting(road, many))

    def test_nothing_is_changed(self):
        for size in SIZES:
            for road in roads_for(size)[::7]:
                for many in (1, 2 ** size - 1, 2 ** size):
                    self.assertEqual(len(self.fair(best_places, road, many)), many)

    def test_no_others_as_many_have_a_lesser_sum(self):
        for size in (1, 2, 3):
            for road in roads_for(size)[::3]:
                shares = [Fraction(*share) for share in shares_of(road)]
                for many in range(1, 2 ** size + 1):
                    best = sum(shares[place] for place in best_places(road, many))
                    others = itertools.combinations(shares, many)
                    self.assertEqual(best, min(sum(other) for other in others))

    def test_what_a_row_of_steps_up_leads_to_from_a_best_one_is_one(self):
        for size in SIZES:
            places = range(2 ** size)
            above = {
                place: [other for other in places if order_paper(size, place, other)[0] == "row"] for place in places
            }
            for share in ONES + ((0, 1), (1, 1)):
                for many in range(1, 2 ** size + 1, 1 if size <= 4 else 5):
                    best = best_places([share] * 2 ** size, many)
                    for place in best:
                        self.assertTrue(set(above[place]) <= set(best), (size, share, many))

    def test_no_road_goes_first(self):
        for road in no_roads():
            for many in (1, 0, None, True):
                self.assertRefused(NoRoad, best_places, road, many)

    def test_no_number(self):
        for size in SIZES:
            things = NO_NUMBERS + [0, -1, -5, 2 ** size + 1, 2 ** size + 2, 10 ** 59, -(10 ** 59), "2", (2,), [2]]
            for many in things:
                self.assertRefused(NoNumber, best_places, [(1, 2)] * 2 ** size, many)


if __name__ == "__main__":
    unittest.main()
