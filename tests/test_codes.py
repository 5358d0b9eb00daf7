import itertools
import unittest

from healhalves.codes import core_for, data_of, is_code, least_weight, word_for
from healhalves.errors import NoCode, NoCore, NoData
from tests.helping import (
    NO_NUMBERS, SIZES, FairCase, all_codes, all_rows, codes_for, core_by_places, data_for, no_codes, word_by_reach,
)


def no_data(code):
    many = len(code[1])
    row = [1] * many
    things = [tuple(row), "1" * many, row + [0], row + row, row[1:], [row], {0: 0}, None, True, 0, 1, (), "", "a"]
    things += [row[1:] + [thing] for thing in NO_NUMBERS + [2, -1, 10 ** 59]]
    things += [[thing] + row[1:] for thing in NO_NUMBERS + [2, -1, 10 ** 59]]
    return things


def no_cores(code):
    length = 2 ** code[0]
    row = [0] * length
    things = NO_NUMBERS + [0, 1, tuple(row), "0" * length, row[1:], row + [0], row + row, row[: length // 2], [row]]
    things += [row[1:] + [thing] for thing in NO_NUMBERS + [2, -1]]
    things += [[thing] + row[1:] for thing in NO_NUMBERS + [2, -1]]
    return things


def ones(place):
    return format(place, "b").count("1")


def unlike(one, other):
    return sum(first != second for first, second in zip(one, other))


class IsCodeTest(FairCase):
    def test_one_place_free(self):
        for size in SIZES:
            for place in range(2 ** size):
                self.assertIs(self.fair(is_code, (size, [place], [1] * (2 ** size - 1))), True)

    def test_all_places_free(self):
        for size in SIZES:
            self.assertIs(self.fair(is_code, (size, list(range(2 ** size)), [])), True)

    def test_all_codes_of_small_sizes_and_drawn_ones(self):
        for code in list(all_codes(1)) + list(all_codes(2)) + [code for size in SIZES for code in codes_for(size)]:
            self.assertIs(self.fair(is_code, code), True)

    def test_what_is_none(self):
        for thing in no_codes():
            self.assertIs(is_code(thing), False, thing)

    def test_anything_is_answered_and_nothing_is_changed(self):
        for thing in no_codes()[::7]:
            self.fair(is_code, thing)

    def test_too_few_and_too_many_fixed_signs(self):
        for size in SIZES:
            for code in codes_for(size):
                for fixed in (code[2] + [0], code[2][1:], code[2] * 2 + [1], code[2] + [2], code[2] + [None]):
                    wanted = len(fixed) == 2 ** size - len(code[1])
                    self.assertIs(is_code((size, code[1], fixed)), wanted)


class CoreForTest(FairCase):
    def test_by_hand(self):
        self.assertSame(self.fair(core_for, (2, [1, 3], [0, 1]), [1, 0]), [0, 1, 1, 0])
        self.assertSame(self.fair(word_for, (2, [1, 3], [0, 1]), [1, 0]), [0, 1, 1, 0])
        self.assertSame(self.fair(core_for, (2, [2], [1, 0, 1]), [1]), [1, 0, 1, 1])
        self.assertSame(self.fair(word_for, (2, [2], [1, 0, 1]), [1]), [1, 1, 0, 1])
        self.assertSame(self.fair(core_for, (1, [0, 1], []), [0, 1]), [0, 1])
        self.assertSame(self.fair(word_for, (1, [0, 1], []), [0, 1]), [1, 1])

    def test_there_and_back(self):
        for size in SIZES:
            for code in codes_for(size):
                for data in data_for(code):
                    core = self.fair(core_for, code, data)
                    self.assertSame(core, core_by_places(code, data))
                    self.assertSame(self.fair(word_for, code, data), word_by_reach(size, core))
                    self.assertSame(self.fair(data_of, code, core), data)

    def test_all_codes_of_small_sizes(self):
        for size in (1, 2):
            for code in all_codes(size):
                for data in all_rows(len(code[1])):
                    core = core_for(code, data)
                    self.assertSame(core, core_by_places(code, data))
                    self.assertSame(word_for(code, data), word_by_reach(size, core))

    def test_no_code_goes_first(self):
        for call in (core_for, word_for):
            for code in no_codes():
                for data in ([0, 1], None, [2], []):
                    self.assertRefused(NoCode, call, code, data)

    def test_no_data(self):
        for call in (core_for, word_for):
            for size in SIZES:
                for code in codes_for(size)[:6]:
                    for data in no_data(code):
                        self.assertRefused(NoData, call, code, data)


class DataOfTest(FairCase):
    def test_all_cores_of_small_codes(self):
        for size in (1, 2):
            for code in all_codes(size):
                cores = {tuple(core_by_places(code, data)): data for data in all_rows(len(code[1]))}
                for core in all_rows(2 ** size):
                    self.assertSame(data_of(code, core), cores.get(tuple(core)))

    def test_a_fixed_place_put_otherwise(self):
        for size in SIZES:
            for code in codes_for(size):
                for data in data_for(code)[:3]:
                    core = core_by_places(code, data)
                    for place in range(2 ** size):
                        other = core[:place] + [1 - core[place]] + core[place + 1:]
                        told = self.fair(data_of, code, other)
                        if place in code[1]:
                            self.assertSame(told, [other[free] for free in code[1]])
                        else:
                            self.assertIs(told, None)

    def test_no_code_goes_first(self):
        for code in no_codes():
            for core in ([0, 0, 0, 0], None, [0], []):
                self.assertRefused(NoCode, data_of, code, core)

    def test_no_core(self):
        for size in SIZES:
            for code in codes_for(size)[:6]:
                for core in no_cores(code):
                    self.assertRefused(NoCore, data_of, code, core)


class LeastWeightTest(FairCase):
    def test_by_hand(self):
        self.assertSame(self.fair(least_weight, (3, [3, 5, 6, 7], [0, 0, 0, 0])), (4, 3))
        self.assertSame(self.fair(least_weight, (3, [5, 6, 7], [0, 0, 0, 0, 0])), (4, 5))
        self.assertSame(self.fair(least_weight, (3, [3, 4, 7], [0, 1, 1, 0, 0])), (2, 4))
        self.assertSame(self.fair(least_weight, (3, [0, 4, 7], [0, 1, 1, 0, 0])), (1, 0))
        self.assertSame(self.fair(least_weight, (3, [7], [0] * 7)), (8, 7))
        self.assertSame(self.fair(least_weight, (5, [31], [1] * 31)), (32, 31))
        self.assertSame(self.fair(least_weight, (5, [7, 16, 24], [1] * 29)), (2, 16))

    def test_of_each_size(self):
        for size in SIZES:
            for code in codes_for(size, 40):
                weight, place = self.fair(least_weight, code)
                self.assertSame((ones(place), place), min((ones(free), free) for free in code[1]))
                self.assertSame(weight, 2 ** ones(place))

    def test_against_pairs_of_data(self):
        codes = list(all_codes(1)) + list(all_codes(2)) + [code for code in codes_for(3, 30) if len(code[1]) <= 6]
        for code in codes:
            words = [word_for(code, data) for data in all_rows(len(code[1]))]
            least = min(unlike(one, other) for one, other in itertools.combinations(words, 2))
            self.assertSame(least_weight(code)[0], least)

    def test_data_that_differ_at_this_place_alone(self):
        for size in SIZES:
            for code in codes_for(size):
                weight, place = least_weight(code)
                at = code[1].index(place)
                for data in data_for(code):
                    other = data[:at] + [1 - data[at]] + data[at + 1:]
                    self.assertEqual(unlike(word_for(code, data), word_for(code, other)), weight)
                    for further in data_for(code):
                        if further != data:
                            self.assertGreaterEqual(unlike(word_for(code, data), word_for(code, further)), weight)

    def test_no_code(self):
        for code in no_codes():
            self.assertRefused(NoCode, least_weight, code)


if __name__ == "__main__":
    unittest.main()
