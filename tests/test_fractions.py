import itertools
import math
import unittest
from fractions import Fraction

from healhalves.errors import NoNumber
from healhalves.fractions import fraction, is_fraction, is_less, is_share, minus, plus, times
from tests.helping import NO_NUMBERS, FairCase, pair

NO_PAIRS = NO_NUMBERS + [0, 1, "1/2", (), (1,), (1, 2, 3), (1, 1, 1), [1, 2], [0, 1], {1: 2}, ((1, 2),), [(1, 2)], (0,)]
BIG = 10 ** 29 + 57
TOPS = [0, 1, -1, 2, -2, 3, 5, -7, 12, -12, 10 ** 12, BIG, -BIG]
SOME = sorted({(int(one), 1) for one in TOPS} | {
    (Fraction(top, bottom).numerator, Fraction(top, bottom).denominator)
    for top in TOPS for bottom in (1, 2, 3, 4, 6, 12, 10 ** 12, BIG)
})


class IsFractionTest(FairCase):
    def test_small_pairs(self):
        for top in range(-13, 14):
            for bottom in range(-13, 14):
                wanted = bottom >= 1 and math.gcd(top, bottom) == 1
                self.assertIs(is_fraction((top, bottom)), wanted, (top, bottom))

    def test_nought(self):
        self.assertIs(is_fraction((0, 1)), True)
        self.assertIs(is_fraction((0, 2)), False)
        self.assertIs(is_fraction((0, 0)), False)
        self.assertIs(is_fraction((0, -1)), False)
        self.assertIs(is_fraction((1, 0)), False)

    def test_great_numbers(self):
        self.assertIs(is_fraction((10 ** 59, 10 ** 59 - 1)), True)
        self.assertIs(is_fraction((-(10 ** 59), 10 ** 59 + 1)), True)
        self.assertIs(is_fraction((10 ** 59, 10 ** 59)), False)
        self.assertIs(is_fraction((10 ** 59 - 1, 9)), False)

    def test_other_kinds(self):
        for thing in NO_PAIRS:
            self.assertIs(self.fair(is_fraction, thing), False, thing)
        for thing in NO_NUMBERS:
            self.assertIs(self.fair(is_fraction, (thing, 1)), False, thing)
            self.assertIs(self.fair(is_fraction, (1, thing)), False, thing)
            self.assertIs(self.fair(is_fraction, (thing, thing)), False, thing)


class IsShareTest(FairCase):
    def test_small_pairs(self):
        for top in range(-13, 14):
            for bottom in range(-13, 14):
                wanted = bottom >= 1 and math.gcd(top, bottom) == 1 and 0 <= top <= bottom
                self.assertIs(is_share((top, bottom)), wanted, (top, bottom))

    def test_both_ends(self):
        self.assertIs(is_share((0, 1)), True)
        self.assertIs(is_share((1, 1)), True)
        self.assertIs(is_share((-1, 5)), False)
        self.assertIs(is_share((6, 5)), False)
        self.assertIs(is_share((2, 1)), False)

    def test_twelve_figures_and_thirteen(self):
        most = 10 ** 12 - 1
        self.assertIs(is_share((1, most)), True)
        self.assertIs(is_share((most - 1, most)), True)
        self.assertIs(is_share((1, most + 1)), False)
        self.assertIs(is_share((most, most + 1)), False)
        self.assertIs(is_share((most + 2, most + 3)), False)
        self.assertIs(is_fraction((most, most + 1)), True)

    def test_not_in_lowest_terms(self):
        for thing in ((2, 4), (0, 2), (5, 5), (6, 9)):
            self.assertIs(is_share(thing), False)

    def test_other_kinds(self):
        for thing in NO_PAIRS:
            self.assertIs(self.fair(is_share, thing), False, thing)
        for thing in NO_NUMBERS:
            self.assertIs(self.fair(is_share, (thing, 1)), False, thing)
            self.assertIs(self.fair(is_share, (0, thing)), False, thing)


class FractionTest(FairCase):
    def test_any_two_whole_numbers(self):
        numbers = list(range(-12, 13)) + [10 ** 59, -(10 ** 59), 6 * BIG, -9 * BIG]
        for top in numbers:
            for bottom in numbers:
                if bottom != 0:
                    told = fraction(top, bottom)
                    self.assertSame(told, pair(Fraction(top, bottom)))
                    self.assertIs(is_fraction(told), True)

    def test_by_hand(self):
        self.assertSame(fraction(6, -4), (-3, 2))
        self.assertSame(fraction(-6, -4), (3, 2))
        self.assertSame(fraction(-6, 4), (-3, 2))
        self.assertSame(fraction(0, -7), (0, 1))

    def test_a_bottom_of_nought(self):
        for top in (0, 1, -1, 10 ** 59):
            self.assertRefused(NoNumber, fraction, top, 0)

    def test_other_kinds(self):
        for thing in NO_NUMBERS + [(1, 2), "1/2"]:
            self.assertRefused(NoNumber, fraction, thing, 1)
            self.assertRefused(NoNumber, fraction, 1, thing)
            self.assertRefused(NoNumber, fraction, thing, 0)
            self.assertRefused(NoNumber, fraction, thing, thing)


class ReckoningTest(FairCase):
    def test_plus_minus_times(self):
        for one, other in itertools.product(SOME, repeat=2):
            first, second = Fraction(*one), Fraction(*other)
            for call, wanted in ((plus, first + second), (minus, first - second), (times, first * second)):
                told = call(one, other)
                self.assertSame(told, pair(wanted))
                self.assertIs(is_fraction(told), True)

    def test_by_hand(self):
        self.assertSame(plus((1, 2), (1, 3)), (5, 6))
        self.assertSame(plus((1, 6), (1, 3)), (1, 2))
        self.assertSame(plus((1, 2), (-1, 2)), (0, 1))
        self.assertSame(minus((1, 3), (1, 2)), (-1, 6))
        self.assertSame(minus((1, 2), (1, 2)), (0, 1))
        self.assertSame(times((2, 3), (3, 4)), (1, 2))
        self.assertSame(times((-2, 3), (3, 2)), (-1, 1))
        self.assertSame(times((0, 1), (3, 7)), (0, 1))

    def test_is_less(self):
        for one, other in itertools.product(SOME, repeat=2):
            self.assertIs(is_less(one, other), Fraction(*one) < Fraction(*other))

    def test_is_less_by_hand(self):
        self.assertIs(is_less((1, 3), (1, 2)), True)
        self.assertIs(is_less((1, 2), (1, 3)), False)
        self.assertIs(is_less((1, 2), (1, 2)), False)
        self.assertIs(is_less((-1, 2), (-1, 3)), True)
        self.assertIs(is_less((-1, 2), (0, 1)), True)
        self.assertIs(is_less((0, 1), (-1, 2)), False)


if __name__ == "__main__":
    unittest.main()
