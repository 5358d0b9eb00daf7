import unittest

from healhalves.errors import NoCore, NoPlace, NoSize
from healhalves.signs import added
from healhalves.words import reaches, word_of
from tests.helping import (
    NO_NUMBERS, NO_SIZES, SIZES, FairCase, cores_for, no_places, reaches_by_figures, single, word_by_reach,
)


def word_by_halves(row):
    if len(row) == 1:
        return row
    middle = len(row) // 2
    first = word_by_halves(row[:middle])
    second = word_by_halves(row[middle:])
    return [(one + other) % 2 for one, other in zip(first, second)] + second


class WordOfTest(FairCase):
    def test_words_by_hand(self):
        self.assertSame(word_of([0, 1]), [1, 1])
        self.assertSame(word_of([1, 0]), [1, 0])
        self.assertSame(word_of([1, 1]), [0, 1])
        self.assertSame(word_of([0, 0, 0, 1]), [1, 1, 1, 1])
        self.assertSame(word_of([0, 0, 1, 0]), [1, 0, 1, 0])
        self.assertSame(word_of([0, 1, 0, 0]), [1, 1, 0, 0])
        self.assertSame(word_of([1, 0, 1, 1]), [1, 1, 0, 1])

    def test_by_halves(self):
        for size in SIZES:
            for core in cores_for(size):
                self.assertSame(self.fair(word_of, core), word_by_halves(core))

    def test_by_the_places_that_reach_a_spot(self):
        for size in SIZES:
            for core in cores_for(size):
                self.assertSame(word_of(core), word_by_reach(size, core))

    def test_the_word_of_the_word_is_the_core(self):
        for size in SIZES:
            for core in cores_for(size):
                self.assertSame(word_of(word_of(core)), core)

    def test_the_word_of_a_sum_is_the_sum_of_the_words(self):
        for size in SIZES:
            cores = cores_for(size)[-40:]
            for one in cores:
                for other in cores:
                    self.assertSame(word_of(added(one, other)), added(word_of(one), word_of(other)))

    def test_other_lengths_are_no_cores(self):
        for length in list(range(0, 70)) + [128, 1000]:
            if length not in (2, 4, 8, 16, 32):
                self.assertRefused(NoCore, word_of, [0] * length)
                self.assertRefused(NoCore, word_of, [1] * length)

    def test_other_kinds_are_no_cores(self):
        for thing in NO_NUMBERS + [0, 1, 2, 4, (0, 1), (0, 0, 0, 1), "01", "0001", {0: 0, 1: 1}, {0, 1}, [[0, 1]]]:
            self.assertRefused(NoCore, word_of, thing)
        self.assertRefused(NoCore, word_of, [[0, 1], [0, 1]])

    def test_lists_with_what_is_no_sign_are_no_cores(self):
        for size in SIZES:
            for place in sorted({0, 2 ** size // 2, 2 ** size - 1}):
                for thing in NO_NUMBERS + [2, -1, 10 ** 59]:
                    core = single(2 ** size, 0)
                    core[place] = thing
                    self.assertRefused(NoCore, word_of, core)


class ReachesTest(FairCase):
    def test_by_hand(self):
        self.assertIs(reaches(2, 3, 0), True)
        self.assertIs(reaches(2, 2, 1), False)
        self.assertIs(reaches(2, 1, 2), False)
        self.assertIs(reaches(3, 5, 4), True)
        self.assertIs(reaches(3, 4, 5), False)

    def test_all_places_and_spots(self):
        for size in SIZES:
            for place in range(2 ** size):
                for spot in range(2 ** size):
                    self.assertIs(reaches(size, place, spot), reaches_by_figures(size, place, spot))

    def test_a_place_reaches_just_the_spots_of_its_own_word(self):
        for size in SIZES:
            for place in range(2 ** size):
                word = word_of(single(2 ** size, place))
                for spot in range(2 ** size):
                    self.assertIs(reaches(size, place, spot), word[spot] == 1)

    def test_no_size(self):
        for size in NO_SIZES:
            self.assertRefused(NoSize, reaches, size, 0, 0)

    def test_no_size_goes_ahead_of_no_place(self):
        for size in NO_SIZES:
            for thing in (-1, 10 ** 59, None, True, "0", []):
                self.assertRefused(NoSize, reaches, size, thing, 0)
                self.assertRefused(NoSize, reaches, size, 0, thing)
                self.assertRefused(NoSize, reaches, size, thing, thing)

    def test_no_place_and_no_spot(self):
        for size in SIZES:
            for thing in no_places(size):
                for other in (0, 2 ** size - 1, thing):
                    self.assertRefused(NoPlace, reaches, size, thing, other)
                    self.assertRefused(NoPlace, reaches, size, other, thing)


if __name__ == "__main__":
    unittest.main()
