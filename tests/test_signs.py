import itertools
import random
import unittest

from healhalves.signs import added, is_sign, sum_of
from tests.helping import NO_NUMBERS, FairCase, all_rows


class IsSignTest(FairCase):
    def test_nought_and_one_are_signs(self):
        self.assertIs(is_sign(0), True)
        self.assertIs(is_sign(1), True)

    def test_truths_are_none(self):
        self.assertIs(is_sign(True), False)
        self.assertIs(is_sign(False), False)

    def test_other_whole_numbers_are_none(self):
        for thing in (2, -1, 3, -2, 10 ** 59, -(10 ** 59)):
            self.assertIs(is_sign(thing), False, thing)

    def test_other_kinds_are_none(self):
        for thing in NO_NUMBERS + ["0", "1", [0], [1], (0,), (1,), [[0]], {0: 1}]:
            self.assertIs(is_sign(thing), False, thing)


class SumOfTest(FairCase):
    def test_no_signs_sum_to_nought(self):
        self.assertSame(sum_of([]), 0)

    def test_one_sign_is_its_own_sum(self):
        self.assertSame(sum_of([0]), 0)
        self.assertSame(sum_of([1]), 1)

    def test_all_short_rows(self):
        for length in range(2, 7):
            for row in all_rows(length):
                self.assertSame(self.fair(sum_of, row), 0 if row.count(1) in (0, 2, 4, 6) else 1)

    def test_many_signs(self):
        for many in (64, 65, 999, 1000):
            self.assertSame(sum_of([1] * many), many % 2)
            self.assertSame(sum_of([0] * many), 0)


class AddedTest(FairCase):
    def test_rows_of_no_signs(self):
        self.assertSame(self.fair(added, [], []), [])

    def test_all_short_rows(self):
        sums = {(0, 0): 0, (0, 1): 1, (1, 0): 1, (1, 1): 0}
        for length in range(1, 5):
            for one, other in itertools.product(all_rows(length), repeat=2):
                self.assertSame(self.fair(added, one, other), [sums[pair] for pair in zip(one, other)])

    def test_long_rows(self):
        draw = random.Random("added")
        for length in (32, 100, 1000):
            one = [draw.randrange(2) for _ in range(length)]
            other = [draw.randrange(2) for _ in range(length)]
            told = self.fair(added, one, other)
            self.assertEqual(len(told), length)
            for sign, first, second in zip(told, one, other):
                self.assertSame(sign, 0 if first == second else 1)

    def test_a_row_and_itself(self):
        row = [0, 1, 1, 0]
        self.assertSame(self.fair(added, row, row), [0, 0, 0, 0])
        self.assertSame(self.fair(added, row, [0, 0, 0, 0]), row)


if __name__ == "__main__":
    unittest.main()
