import math
import unittest
from fractions import Fraction

from healhalves.counts import counts_of
from healhalves.errors import NoPlace, NoSize
from healhalves.shares import shares_of
from tests.helping import NO_SIZES, SIZES, FairCase, losses_for, lost_places, no_places


class CountsOfTest(FairCase):
    def test_by_hand(self):
        self.assertSame(self.fair(counts_of, 1, 0), [0, 2, 1])
        self.assertSame(self.fair(counts_of, 1, 1), [0, 0, 1])
        self.assertSame(self.fair(counts_of, 2, 1), [0, 0, 4, 4, 1])
        self.assertSame(self.fair(counts_of, 2, 2), [0, 0, 2, 4, 1])

    def test_against_a_going_through_of_all_losses(self):
        for size in (1, 2, 3):
            wanted = [[0] * (2 ** size + 1) for _ in range(2 ** size)]
            for loss in losses_for(size):
                for place in lost_places(size, loss):
                    wanted[place][len(loss)] += 1
            for place in range(2 ** size):
                self.assertSame(self.fair(counts_of, size, place), wanted[place])

    def test_the_first_place_and_the_last(self):
        for size in SIZES:
            length = 2 ** size
            self.assertSame(counts_of(size, 0), [0] + [math.comb(length, k) for k in range(1, length + 1)])
            self.assertSame(counts_of(size, length - 1), [0] * length + [1])

    def test_nothing_is_kept(self):
        for size in SIZES:
            for place in range(2 ** size):
                self.assertEqual(len(self.fair(counts_of, size, place)), 2 ** size + 1)

    def test_all_places_together(self):
        for size in SIZES:
            length = 2 ** size
            counts = [counts_of(size, place) for place in range(length)]
            for k in range(length + 1):
                self.assertEqual(sum(one[k] for one in counts), k * math.comb(length, k))

    def test_a_place_and_the_one_across(self):
        for size in SIZES:
            length = 2 ** size
            for place in range(length):
                one = counts_of(size, place)
                other = counts_of(size, length - 1 - place)
                for k in range(length + 1):
                    self.assertEqual(one[k] + other[length - k], math.comb(length, k))

    def test_the_share_on_a_road_of_one_share(self):
        for size in SIZES:
            length = 2 ** size
            for share in ((0, 1), (1, 1), (1, 2), (2, 3), (7, 10)):
                p = Fraction(*share)
                for place, told in enumerate(shares_of([share] * length)):
                    counts = counts_of(size, place)
                    wanted = sum(counts[k] * p ** k * (1 - p) ** (length - k) for k in range(length + 1))
                    self.assertEqual(Fraction(*told), wanted)

    def test_no_size_goes_first(self):
        for size in NO_SIZES:
            for place in (0, -1, None, True, "0", 32):
                self.assertRefused(NoSize, counts_of, size, place)

    def test_no_place(self):
        for size in SIZES:
            for place in no_places(size):
                self.assertRefused(NoPlace, counts_of, size, place)


if __name__ == "__main__":
    unittest.main()
