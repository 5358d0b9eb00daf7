import unittest

from healhalves.codes import least_weight, word_for
from healhalves.errors import NoCame, NoCode, TooMany
from healhalves.fitting import all_that_fit, how_many_fit
from healhalves.reading import read_one_by_one
from tests.helping import (
    SIZES, FairCase, all_came, all_codes, came_for, came_with, codes_for, core_by_places, data_for, few_free,
    fit_by_all_data, fits_came, how_many_by_rank, losses_for, no_came, no_codes, turned_at, word_by_reach,
)

POWERS = [2 ** times for times in range(33)]


class FittingTest(FairCase):
    def test_by_hand(self):
        code = (2, [1, 3], [0, 1])
        self.assertSame(self.fair(all_that_fit, code, [0, 1, 1, 0]), [[1, 0]])
        self.assertSame(self.fair(all_that_fit, code, [0, 1, 1, 1]), [])
        self.assertSame(self.fair(all_that_fit, code, [None, 1, 0, 0]), [])
        self.assertSame(self.fair(all_that_fit, code, [None, None, 1, 0]), [[0, 0], [1, 0]])
        self.assertSame(self.fair(all_that_fit, code, [0, None, None, None]), [[0, 1], [1, 0]])
        self.assertSame(self.fair(all_that_fit, code, [None] * 4), [[0, 0], [0, 1], [1, 0], [1, 1]])
        self.assertSame(self.fair(how_many_fit, code, [0, 1, 1, 0]), 1)
        self.assertSame(self.fair(how_many_fit, code, [0, 1, 1, 1]), 0)
        self.assertSame(self.fair(how_many_fit, code, [0, None, None, None]), 2)
        self.assertSame(self.fair(how_many_fit, code, [None] * 4), 4)

    def test_all_that_can_come_of_small_sizes(self):
        for size in (1, 2):
            for code in all_codes(size):
                for came in all_came(size):
                    wanted = fit_by_all_data(code, came)
                    self.assertSame(all_that_fit(code, came), wanted)
                    self.assertSame(how_many_fit(code, came), len(wanted))

    def test_codes_of_few_free_places_against_all_data(self):
        for size in (3, 4, 5):
            seen = set()
            for code in few_free(size, 6):
                for came in came_for(code, 5):
                    wanted = fit_by_all_data(code, came)
                    self.assertSame(all_that_fit(code, came), wanted)
                    self.assertSame(how_many_fit(code, came), len(wanted))
                    self.assertEqual(how_many_by_rank(code, came), len(wanted))
                    seen.add(len(wanted))
            self.assertTrue({0, 1, 2, 4} <= seen, seen)

    def test_codes_of_each_size(self):
        for size in SIZES:
            for code in codes_for(size):
                for came in came_for(code):
                    many = how_many_fit(code, came)
                    self.assertSame(many, how_many_by_rank(code, came))
                    self.assertTrue(many in [0] + POWERS)
                    if many > 256:
                        self.assertRefused(TooMany, all_that_fit, code, came)
                    else:
                        self.check_told(code, came, all_that_fit(code, came), many)

    def check_told(self, code, came, told, many):
        self.assertEqual(len(told), many)
        self.assertEqual(len({tuple(data) for data in told}), many)
        self.assertSame(told, sorted(told))
        for data in told:
            self.assertTrue(fits_came(word_by_reach(code[0], core_by_places(code, data)), came))

    def test_nothing_is_changed(self):
        for size in SIZES:
            for code in codes_for(size)[:8]:
                for came in came_for(code, 3):
                    if self.fair(how_many_fit, code, came) <= 256:
                        self.fair(all_that_fit, code, came)


class TooManyTest(FairCase):
    def test_just_where_more_than_256_fit(self):
        for size in (4, 5):
            length = 2 ** size
            for free in (list(range(9)), list(range(length - 9, length)), list(range(0, 9)) + [length - 1]):
                code = (size, free, [1] * (length - len(free)))
                less = (size, free[-8:], [1] * (length - 8))
                self.assertSame(how_many_fit(code, [None] * length), 2 ** len(free))
                self.assertRefused(TooMany, all_that_fit, code, [None] * length)
                self.assertSame(how_many_fit(less, [None] * length), 256)
                self.check_all_256(all_that_fit(less, [None] * length))

    def check_all_256(self, told):
        self.assertSame(told, [[int(sign) for sign in format(number, "08b")] for number in range(256)])

    def test_all_places_of_size_three(self):
        self.check_all_256(self.fair(all_that_fit, (3, list(range(8)), []), [None] * 8))

    def test_256_and_512_with_some_signs_kept(self):
        for size in (4, 5):
            length = 2 ** size
            code = (size, list(range(length)), [])
            for many in range(length + 1):
                came = [1] * (length - many) + [None] * many
                self.assertSame(how_many_fit(code, came), 2 ** many)
                if many > 8:
                    self.assertRefused(TooMany, all_that_fit, code, came)
                else:
                    told = all_that_fit(code, came)
                    self.assertEqual(len(told), 2 ** many)
                    self.assertTrue(all(fits_came(word_for(code, data), came) for data in told))

    def test_where_none_fits_these_are_not_too_many(self):
        # The place 15 has the sign that stands at the spot 15, and the place 31 that at the spot 31.
        for size, last in ((4, 15), (5, 31)):
            code = (size, list(range(last)), [0])
            came = [None] * last + [1]
            self.assertSame(self.fair(how_many_fit, code, came), 0)
            self.assertSame(self.fair(all_that_fit, code, came), [])
            came[last] = 0
            self.assertSame(self.fair(how_many_fit, code, came), 2 ** last)
            self.assertRefused(TooMany, all_that_fit, code, came)


class TogetherTest(FairCase):
    """Fitting and reading one by one."""

    def test_what_is_read_fits_alone_and_by_a_slip_none_fits(self):
        for size in SIZES:
            seen = set()
            for code in codes_for(size):
                for came in came_for(code):
                    told = read_one_by_one(code, came)
                    seen.add(told[0])
                    if told[0] == "read":
                        self.assertSame(all_that_fit(code, came), [told[1]])
                    if told[0] == "slip":
                        self.assertSame(all_that_fit(code, came), [])
                        self.assertSame(how_many_fit(code, came), 0)
            self.assertEqual(seen, {"read", "slip", "lost"})

    def test_all_that_can_come_of_small_sizes(self):
        for size in (1, 2):
            for code in all_codes(size):
                for came in all_came(size):
                    told = read_one_by_one(code, came)
                    if told[0] != "lost":
                        self.assertSame(all_that_fit(code, came), [told[1]] if told[0] == "read" else [])

    def test_data_of_a_word_fit_whatever_is_lost(self):
        for size in SIZES:
            for code in codes_for(size):
                for data in data_for(code)[-2:]:
                    for loss in losses_for(size)[-20:]:
                        came = came_with(word_for(code, data), loss)
                        many = how_many_fit(code, came)
                        self.assertGreaterEqual(many, 1)
                        if many <= 256:
                            self.assertIn(data, all_that_fit(code, came))

    def test_these_alone_where_fewer_are_lost_than_the_least_weight(self):
        for size in SIZES:
            for code in codes_for(size, 20):
                weight, place = least_weight(code)
                data = data_for(code)[-1]
                word = word_for(code, data)
                other = [1 - sign if free == place else sign for free, sign in zip(code[1], data)]
                unlike = [spot for spot in range(2 ** size) if word[spot] != word_for(code, other)[spot]]
                for loss in [loss for loss in losses_for(size) if len(loss) < weight][-20:]:
                    self.assertSame(all_that_fit(code, came_with(word, loss)), [data])
                # The bound is a narrow one: these spots are as many as the weight, and without them both fit.
                self.assertEqual(len(unlike), weight)
                self.assertSame(all_that_fit(code, came_with(word, unlike[1:])), [data])
                self.assertGreaterEqual(how_many_fit(code, came_with(word, unlike)), 2)

    def test_a_sign_turned_never_leaves_the_data(self):
        for size in SIZES:
            for code in codes_for(size)[:8]:
                for data in data_for(code)[:2]:
                    for spot in range(2 ** size):
                        self.assertNotIn(data, all_that_fit(code, turned_at(word_for(code, data), [spot])))


class RefusalsTest(FairCase):
    def test_no_code_goes_first(self):
        for call in (how_many_fit, all_that_fit):
            for code in no_codes():
                for came in ([0, 0, 0, 0], [None] * 4, None, [2], []):
                    self.assertRefused(NoCode, call, code, came)

    def test_no_came_goes_ahead_of_too_many(self):
        for call in (how_many_fit, all_that_fit):
            for size in SIZES:
                for code in codes_for(size)[:4]:
                    for came in no_came(size):
                        self.assertRefused(NoCame, call, code, came)


if __name__ == "__main__":
    unittest.main()
