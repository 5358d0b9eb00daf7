import random
import unittest

from healhalves.errors import NoLoss, NoSize
from healhalves.losses import halves_lost, places_lost
from tests.helping import NO_SIZES, SIZES, FairCase, can_be_told, losses_for, lost_places, no_losses


class HalvesLostTest(FairCase):
    def test_by_hand(self):
        self.assertSame(self.fair(halves_lost, 1, []), ([], []))
        self.assertSame(self.fair(halves_lost, 1, [0]), ([0], []))
        self.assertSame(self.fair(halves_lost, 1, [1]), ([0], []))
        self.assertSame(self.fair(halves_lost, 1, [0, 1]), ([0], [0]))
        self.assertSame(self.fair(halves_lost, 2, [1, 2, 3]), ([0, 1], [1]))
        self.assertSame(self.fair(halves_lost, 3, [0, 2, 3, 6]), ([0, 2, 3], [2]))
        self.assertSame(self.fair(halves_lost, 3, [1, 5]), ([1], [1]))

    def test_none_and_all(self):
        for size in SIZES:
            spots = list(range(2 ** size))
            half = spots[: 2 ** (size - 1)]
            self.assertSame(self.fair(halves_lost, size, []), ([], []))
            self.assertSame(self.fair(halves_lost, size, spots), (half, half))

    def test_other_losses(self):
        for size in SIZES:
            half = 2 ** (size - 1)
            for loss in losses_for(size):
                lower = {spot for spot in loss if spot < half}
                upper = {spot - half for spot in loss if spot >= half}
                self.assertSame(self.fair(halves_lost, size, loss), (sorted(lower | upper), sorted(lower & upper)))


class PlacesLostTest(FairCase):
    def test_by_hand(self):
        self.assertSame(self.fair(places_lost, 1, [0]), [0])
        self.assertSame(self.fair(places_lost, 1, [1]), [0])
        self.assertSame(self.fair(places_lost, 2, [3]), [0])
        self.assertSame(self.fair(places_lost, 2, [0, 1]), [0, 1])
        self.assertSame(self.fair(places_lost, 2, [0, 2]), [0, 2])
        self.assertSame(self.fair(places_lost, 2, [1, 2]), [0, 1])

    def test_none_and_all(self):
        for size in SIZES:
            self.assertSame(self.fair(places_lost, size, []), [])
            self.assertSame(self.fair(places_lost, size, list(range(2 ** size))), list(range(2 ** size)))

    def test_place_by_place(self):
        for size in SIZES:
            for loss in losses_for(size):
                self.assertSame(self.fair(places_lost, size, loss), lost_places(size, loss))

    def test_as_many_places_as_spots(self):
        for size in SIZES:
            for loss in losses_for(size, 300):
                self.assertEqual(len(places_lost(size, loss)), len(loss))

    def test_a_greater_loss_loses_all_that_and_more(self):
        draw = random.Random("greater")
        for size in SIZES:
            for loss in losses_for(size):
                more = [spot for spot in range(2 ** size) if spot in loss or draw.randrange(3) == 0]
                lost = set(places_lost(size, loss))
                self.assertTrue(lost <= set(places_lost(size, more)))
                self.assertEqual(lost == set(places_lost(size, more)), loss == more)

    def test_just_the_lost_ones_can_not_be_told(self):
        for size in (1, 2, 3):
            for loss in losses_for(size):
                wanted = [place for place in range(2 ** size) if not can_be_told(size, loss, place)]
                self.assertSame(places_lost(size, loss), wanted)


class RefusalsTest(FairCase):
    def test_no_size_goes_first(self):
        for call in (halves_lost, places_lost):
            for size in NO_SIZES:
                for loss in ([], [0], None, [5, 4], "0"):
                    self.assertRefused(NoSize, call, size, loss)

    def test_no_loss(self):
        for call in (halves_lost, places_lost):
            for size in SIZES:
                for thing in no_losses(size):
                    self.assertRefused(NoLoss, call, size, thing)


if __name__ == "__main__":
    unittest.main()
