import unittest
from fractions import Fraction

from healhalves.errors import NoLoss, NoRoad
from healhalves.fractions import is_fraction
from healhalves.shares import chance_of, halves_of, shares_of
from tests.helping import (
    SIZES, FairCase, halves_by_fractions, losses_for, lost_places, no_losses, no_roads, pair, roads_for,
    shares_by_fractions,
)

ONES = [(1, 2), (1, 3), (2, 3), (1, 10), (9, 10), (0, 1), (1, 1), (123456789011, 999999999989)]


def read(shares):
    return [Fraction(*share) for share in shares]


def product(road, loss):
    chance = Fraction(1)
    for spot, share in enumerate(read(road)):
        chance *= share if spot in loss else 1 - share
    return chance


class ChanceOfTest(FairCase):
    def test_by_hand(self):
        self.assertSame(self.fair(chance_of, [(1, 2), (1, 3)], []), (1, 3))
        self.assertSame(self.fair(chance_of, [(1, 2), (1, 3)], [0]), (1, 3))
        self.assertSame(self.fair(chance_of, [(1, 2), (1, 3)], [1]), (1, 6))
        self.assertSame(self.fair(chance_of, [(1, 2), (1, 3)], [0, 1]), (1, 6))
        self.assertSame(self.fair(chance_of, [(1, 4), (2, 3)], [1]), (1, 2))
        self.assertSame(self.fair(chance_of, [(0, 1), (1, 1)], [1]), (1, 1))
        self.assertSame(self.fair(chance_of, [(0, 1), (1, 1)], [0]), (0, 1))
        self.assertSame(self.fair(chance_of, [(0, 1), (1, 1)], []), (0, 1))

    def test_none_all_and_others_against_the_product(self):
        for size in SIZES:
            losses = losses_for(size)
            some = losses if size <= 2 else [[], list(range(2 ** size))] + losses[-12:]
            for road in roads_for(size):
                for loss in some:
                    told = chance_of(road, loss)
                    self.assertSame(told, pair(product(road, loss)))
                    self.assertIs(is_fraction(told), True)

    def test_nothing_is_changed(self):
        for size in SIZES:
            for road in roads_for(size)[::5]:
                for loss in losses_for(size)[-3:]:
                    self.fair(chance_of, road, loss)

    def test_the_chances_of_all_losses_are_one_together(self):
        for size in (1, 2, 3):
            for road in roads_for(size)[::3]:
                self.assertEqual(sum(Fraction(*chance_of(road, loss)) for loss in losses_for(size)), 1)

    def test_no_road_goes_first(self):
        for road in no_roads():
            for loss in ([], [0], None, [1, 0], [32]):
                self.assertRefused(NoRoad, chance_of, road, loss)

    def test_no_loss_of_the_size_that_the_road_tells(self):
        for size in SIZES:
            for loss in no_losses(size):
                self.assertRefused(NoLoss, chance_of, [(1, 2)] * 2 ** size, loss)
            self.assertRefused(NoLoss, chance_of, [(0, 1)] * 2 ** size, [2 ** size])
            self.assertSame(chance_of([(1, 1)] * 2 ** size, list(range(2 ** size))), (1, 1))


class HalvesOfTest(FairCase):
    def test_by_hand(self):
        self.assertSame(self.fair(halves_of, [(1, 2), (1, 3)]), ([(2, 3)], [(1, 6)]))
        self.assertSame(
            self.fair(halves_of, [(1, 2), (0, 1), (1, 4), (1, 1)]), ([(5, 8), (1, 1)], [(1, 8), (0, 1)]),
        )

    def test_of_each_length(self):
        for size in SIZES:
            for road in roads_for(size):
                worse, better = halves_by_fractions(read(road))
                told = self.fair(halves_of, road)
                self.assertSame(told, ([pair(one) for one in worse], [pair(one) for one in better]))

    def test_no_road(self):
        for road in no_roads():
            self.assertRefused(NoRoad, halves_of, road)


class SharesOfTest(FairCase):
    def test_by_hand(self):
        self.assertSame(self.fair(shares_of, [(1, 2), (1, 3)]), [(2, 3), (1, 6)])
        self.assertSame(self.fair(shares_of, [(1, 2)] * 4), [(15, 16), (9, 16), (7, 16), (1, 16)])
        self.assertSame(self.fair(shares_of, [(0, 1), (1, 1), (0, 1), (1, 1)]), [(1, 1), (0, 1), (1, 1), (0, 1)])
        self.assertSame(self.fair(shares_of, [(0, 1), (0, 1), (1, 1), (1, 1)]), [(1, 1), (1, 1), (0, 1), (0, 1)])

    def test_of_each_length(self):
        for size in SIZES:
            for road in roads_for(size):
                told = shares_of(road)
                self.assertSame(told, [pair(one) for one in shares_by_fractions(read(road))])
                self.assertTrue(all(is_fraction(one) for one in told))

    def test_nothing_is_changed(self):
        for size in SIZES:
            for road in roads_for(size)[::4]:
                self.fair(shares_of, road)

    def test_each_is_the_sum_of_the_chances_of_all_losses_that_lose_the_place(self):
        for size in (1, 2, 3):
            lost = [(loss, lost_places(size, loss)) for loss in losses_for(size)]
            for road in roads_for(size):
                wanted = [Fraction(0)] * 2 ** size
                for loss, places in lost:
                    chance = product(road, loss)
                    for place in places:
                        wanted[place] += chance
                self.assertSame(shares_of(road), [pair(one) for one in wanted])

    def test_all_together_are_as_much_as_the_roads(self):
        for size in SIZES:
            for road in roads_for(size):
                self.assertEqual(sum(read(shares_of(road))), sum(read(road)))

    def test_each_parts_at_a_spot(self):
        for size in SIZES:
            for road in roads_for(size)[-9::4]:
                whole = read(shares_of(road))
                for spot in sorted({0, 1, 2 ** size - 1}):
                    share = Fraction(*road[spot])
                    lost = read(shares_of(road[:spot] + [(1, 1)] + road[spot + 1:]))
                    kept = read(shares_of(road[:spot] + [(0, 1)] + road[spot + 1:]))
                    self.assertEqual(whole, [share * one + (1 - share) * other for one, other in zip(lost, kept)])

    def test_a_road_of_one_share_parts_size_by_size(self):
        for share in ONES:
            for size in SIZES[:-1]:
                lesser = read(shares_of([share] * 2 ** size))
                greater = read(shares_of([share] * 2 ** (size + 1)))
                for place, z in enumerate(lesser):
                    worse, better = greater[2 * place], greater[2 * place + 1]
                    self.assertEqual((worse, better), (z + z - z * z, z * z))
                    u = z * (1 - z)
                    self.assertEqual(worse * (1 - worse) + better * (1 - better), 2 * u * (1 - u))

    def test_all_such_products_grow_less_than_the_places_do(self):
        for share in ONES:
            sums = [sum(z * (1 - z) for z in read(shares_of([share] * 2 ** size))) for size in SIZES]
            for one, other in zip(sums, sums[1:]):
                if share in ((0, 1), (1, 1)):
                    self.assertEqual((one, other), (0, 0))
                else:
                    self.assertLess(other, 2 * one)

    def test_no_road(self):
        for road in no_roads():
            self.assertRefused(NoRoad, shares_of, road)


if __name__ == "__main__":
    unittest.main()
