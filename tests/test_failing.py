import unittest
from fractions import Fraction

from healhalves.errors import NoCode, NoRoad, TooMany
from healhalves.failing import bounds_of, failing_of
from healhalves.fractions import is_fraction
from healhalves.shares import shares_of
from tests.helping import SIZES, FairCase, all_codes, codes_for, losses_for, lost_places, no_codes, no_roads, pair, roads_for


def chance(road, loss):
    product = Fraction(1)
    for spot, share in enumerate(road):
        product *= Fraction(*share) if spot in loss else 1 - Fraction(*share)
    return product


def places_by_loss(size):
    return [(loss, set(lost_places(size, loss))) for loss in losses_for(size)]


def failing_by_losses(code, road, losses):
    return sum((chance(road, loss) for loss, places in losses if places & set(code[1])), Fraction(0))


class FailingOfTest(FairCase):
    def test_by_hand(self):
        road = [(1, 2), (1, 3)]
        self.assertSame(self.fair(failing_of, (1, [0], [0]), road), (2, 3))
        self.assertSame(self.fair(failing_of, (1, [1], [1]), road), (1, 6))
        self.assertSame(self.fair(failing_of, (1, [0, 1], []), road), (2, 3))
        self.assertSame(self.fair(failing_of, (2, [1, 2], [0, 0]), [(1, 2)] * 4), (11, 16))
        self.assertSame(self.fair(failing_of, (2, [3], [0, 0, 0]), [(0, 1)] * 4), (0, 1))
        self.assertSame(self.fair(failing_of, (2, [3], [0, 0, 0]), [(1, 1)] * 4), (1, 1))

    def test_against_the_sum_over_all_losses(self):
        for size in (1, 2, 3):
            losses = places_by_loss(size)
            for code in list(all_codes(size))[::3] if size <= 2 else codes_for(size, 6):
                for road in roads_for(size, 3)[::2]:
                    told = failing_of(code, road)
                    self.assertSame(told, pair(failing_by_losses(code, road, losses)))
                    self.assertIs(is_fraction(told), True)

    def test_with_one_free_place_it_is_its_share(self):
        for size in (1, 2, 3):
            for road in roads_for(size)[::5]:
                for place, share in enumerate(shares_of(road)):
                    self.assertSame(failing_of((size, [place], [0] * (2 ** size - 1)), road), share)

    def test_nothing_is_changed(self):
        for size in (1, 2, 3):
            for code in codes_for(size)[:6]:
                for road in roads_for(size)[::8]:
                    self.fair(failing_of, code, road)

    def test_no_code_goes_first(self):
        for code in no_codes():
            for road in ([(1, 2)] * 4, [(1, 2)] * 3, None):
                self.assertRefused(NoCode, failing_of, code, road)

    def test_no_road_goes_ahead_of_too_many(self):
        for size in SIZES:
            for code in codes_for(size)[:4]:
                for road in no_roads()[::3]:
                    self.assertRefused(NoRoad, failing_of, code, road)

    def test_a_road_of_another_length(self):
        for size in SIZES:
            for other in SIZES:
                if other != size:
                    self.assertRefused(NoRoad, failing_of, codes_for(size)[0], [(1, 2)] * 2 ** other)

    def test_too_many(self):
        for size in (4, 5):
            for code in codes_for(size):
                for road in roads_for(size)[::6]:
                    self.assertRefused(TooMany, failing_of, code, road)


class BoundsOfTest(FairCase):
    def test_by_hand(self):
        road = [(1, 2)] * 4
        self.assertSame(self.fair(bounds_of, (2, [1, 2], [0, 0]), road), ((9, 16), (1, 1)))
        self.assertSame(self.fair(bounds_of, (2, [2, 3], [0, 0]), road), ((7, 16), (1, 2)))
        self.assertSame(self.fair(bounds_of, (2, [0, 1, 2, 3], []), road), ((15, 16), (2, 1)))
        self.assertSame(self.fair(bounds_of, (2, [0, 3], [1, 1]), [(0, 1)] * 4), ((0, 1), (0, 1)))
        self.assertSame(self.fair(bounds_of, (2, [0, 3], [1, 1]), [(1, 1)] * 4), ((1, 1), (2, 1)))

    def test_of_all_sizes(self):
        for size in SIZES:
            for road in roads_for(size)[::2]:
                shares = [Fraction(*share) for share in shares_of(road)]
                for code in codes_for(size):
                    free = [shares[place] for place in code[1]]
                    self.assertSame(bounds_of(code, road), (pair(max(free)), pair(sum(free))))

    def test_the_share_of_failing_lies_between_both(self):
        for size in (1, 2, 3):
            for road in roads_for(size)[::2]:
                for code in codes_for(size):
                    least, most = bounds_of(code, road)
                    failing = Fraction(*failing_of(code, road))
                    self.assertTrue(Fraction(*least) <= failing <= Fraction(*most))

    def test_nothing_is_changed(self):
        for size in SIZES:
            for code in codes_for(size)[:6]:
                for road in roads_for(size)[::9]:
                    self.fair(bounds_of, code, road)

    def test_no_code_goes_first(self):
        for code in no_codes():
            for road in ([(1, 2)] * 4, [(1, 2)] * 3, None):
                self.assertRefused(NoCode, bounds_of, code, road)

    def test_no_road(self):
        for size in SIZES:
            for code in codes_for(size)[:2]:
                for road in no_roads():
                    self.assertRefused(NoRoad, bounds_of, code, road)
            for other in SIZES:
                if other != size:
                    self.assertRefused(NoRoad, bounds_of, codes_for(size)[0], [(1, 2)] * 2 ** other)


if __name__ == "__main__":
    unittest.main()
