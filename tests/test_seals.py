import random
import unittest

from healhalves.codes import word_for
from healhalves.errors import NoCame, NoCode, NoData, NoSeals, TooMany
from healhalves.fitting import all_that_fit, how_many_fit
from healhalves.seals import all_that_hold, holds, plain_of, sealed
from tests.helping import (
    NO_NUMBERS, SIZES, FairCase, all_codes, all_rows, came_for, came_with, codes_for, data_for, few_free, fit_by_all_data,
    no_came, no_codes, turned_at,
)


def drawn_seals(draw, many, most=8):
    """Seals for so many signs, none to eight, in any order."""
    lasts = draw.sample(range(many), draw.randrange(min(most, many) + 1))
    return [sorted(draw.sample(range(last), draw.randrange(last + 1))) + [last] for last in lasts]


def seals_for(code, some=6):
    many = len(code[1])
    draw = random.Random(f"seals {code}")
    kinds = [[], [[0]], [[many - 1]], [list(range(many))], [[number] for number in range(min(8, many))]]
    kinds += [[list(range(last + 1)) for last in range(many)][::-1][:8]]
    return kinds + [drawn_seals(draw, many) for _ in range(some)]


def do_hold(seals, data):
    return all(sum(data[number] for number in seal) % 2 == 0 for seal in seals)


def no_seals(code):
    many = len(code[1])
    things = [thing for thing in NO_NUMBERS if thing != []] + [0, 1, (), ((0,),), ([0],), "0", {0: [0]}]
    things += [[[number] for number in range(9)], [[0]] * 9, [[]] * 9, [[]], [[0], []], [[], [0]], [[[0]]], [[(0,)]]]
    things += [[(0,)], ["0"], [{0: 0}], [{0}], [0], [None], [[0], None], [[0], (0,)], [[0], 0], [[0], [0]], [[0, 0]]]
    for thing in NO_NUMBERS + [-1, many, many + 1, 10 ** 59, -(10 ** 59)]:
        things += [[[thing]], [[0, thing]], [[thing, many - 1]], [[0], [thing]]]
    if many > 1:
        last = many - 1
        things += [[[last, 0]], [[0, last, last]], [[last], [last]], [[0, last], [last]], [[1, 0]], [[last], [0], [0, last]]]
        things += [[[0, 1, 0]], [[0, 1], [0], [1]], [[0, 1], (1,)], [(0, 1)], [[0], [1, 0]]]
    return things


def codes_with_many():
    """Codes of each size, of one data's sign and of many."""
    return [code for size in SIZES for code in codes_for(size)]


class HoldsTest(FairCase):
    def test_by_hand(self):
        code = (2, [0, 1, 3], [1])
        self.assertIs(self.fair(holds, code, [], [1, 1, 1]), True)
        self.assertIs(self.fair(holds, code, [[0, 2]], [1, 0, 1]), True)
        self.assertIs(self.fair(holds, code, [[0, 2]], [1, 0, 0]), False)
        self.assertIs(self.fair(holds, code, [[2], [0, 1]], [1, 1, 0]), True)
        self.assertIs(self.fair(holds, code, [[2], [0, 1]], [1, 1, 1]), False)
        self.assertIs(self.fair(holds, code, [[2], [0, 1]], [0, 1, 0]), False)

    def test_against_sums(self):
        seen = set()
        for code in codes_with_many():
            for seals in seals_for(code):
                for data in data_for(code):
                    wanted = do_hold(seals, data)
                    self.assertIs(holds(code, seals, data), wanted)
                    seen.add(wanted)
        self.assertEqual(seen, {True, False})

    def test_eight_seals_and_nine(self):
        code = (4, list(range(16)), [])
        self.assertIs(holds(code, [[number] for number in range(8)], [0] * 8 + [1] * 8), True)
        self.assertIs(holds(code, [[number] for number in range(8)], [0] * 7 + [1] * 9), False)
        self.assertRefused(NoSeals, holds, code, [[number] for number in range(9)], [0] * 16)


class SealedTest(FairCase):
    def test_by_hand(self):
        code = (2, [0, 1, 2, 3], [])
        self.assertSame(self.fair(sealed, code, [], [1, 0, 1, 1]), [1, 0, 1, 1])
        self.assertSame(self.fair(sealed, code, [[0, 1, 2, 3]], [1, 0, 0]), [1, 0, 0, 1])
        self.assertSame(self.fair(sealed, code, [[0, 2, 3], [0, 1]], [1, 0]), [1, 1, 0, 1])
        self.assertSame(self.fair(sealed, code, [[1, 3], [0, 1]], [1, 0]), [1, 1, 0, 1])
        self.assertSame(self.fair(sealed, code, [[3], [2], [1], [0]], []), [0, 0, 0, 0])
        self.assertSame(self.fair(plain_of, code, [[1, 3], [0, 1]], [1, 1, 0, 1]), [1, 0])
        self.assertSame(self.fair(plain_of, code, [[1, 3], [0, 1]], [1, 0, 1, 0]), [1, 1])

    def test_there_and_back(self):
        for code in codes_with_many():
            draw = random.Random(f"plain {code}")
            for seals in seals_for(code):
                lasts = [seal[-1] for seal in seals]
                for _ in range(3):
                    plain = [draw.randrange(2) for _ in range(len(code[1]) - len(seals))]
                    data = self.fair(sealed, code, seals, plain)
                    self.assertEqual(len(data), len(code[1]))
                    self.assertTrue(do_hold(seals, data))
                    self.assertIs(holds(code, seals, data), True)
                    self.assertSame([data[k] for k in range(len(data)) if k not in lasts], plain)
                    self.assertSame(self.fair(plain_of, code, seals, data), plain)

    def test_data_that_hold_and_no_others_are_made_of_their_plain_signs(self):
        for code in [code for code in codes_with_many() if len(code[1]) <= 6]:
            for seals in seals_for(code):
                for data in all_rows(len(code[1])):
                    plain = plain_of(code, seals, data)
                    lasts = [seal[-1] for seal in seals]
                    self.assertSame(plain, [data[k] for k in range(len(data)) if k not in lasts])
                    self.assertEqual(sealed(code, seals, plain) == data, do_hold(seals, data))

    def test_the_order_of_the_seals_is_all_the_same(self):
        for code in codes_with_many():
            draw = random.Random(f"order {code}")
            for seals in seals_for(code):
                plain = [draw.randrange(2) for _ in range(len(code[1]) - len(seals))]
                self.assertSame(sealed(code, seals, plain), sealed(code, seals[::-1], plain))


class AllThatHoldTest(FairCase):
    def test_by_hand(self):
        code = (2, [1, 3], [0, 1])
        came = [None] * 4
        self.assertSame(self.fair(all_that_hold, code, [], came), [[0, 0], [0, 1], [1, 0], [1, 1]])
        self.assertSame(self.fair(all_that_hold, code, [[0, 1]], came), [[0, 0], [1, 1]])
        self.assertSame(self.fair(all_that_hold, code, [[1], [0]], came), [[0, 0]])
        self.assertSame(self.fair(all_that_hold, code, [[0, 1]], [0, None, None, None]), [])
        self.assertSame(self.fair(all_that_hold, code, [[1]], [0, None, None, None]), [[1, 0]])
        self.assertSame(self.fair(all_that_hold, code, [], [0, 1, 1, 1]), [])

    def test_small_codes_against_all_data(self):
        codes = list(all_codes(2))[::3] + [code for size in (1, 2, 3, 4, 5) for code in few_free(size, 6, 6)]
        for code in codes:
            for seals in seals_for(code, 3):
                for came in came_for(code, 2)[::2]:
                    wanted = [data for data in fit_by_all_data(code, came) if do_hold(seals, data)]
                    self.assertSame(all_that_hold(code, seals, came), wanted)

    def test_of_greater_codes_those_of_all_that_fit(self):
        for size in (3, 4, 5):
            for code in codes_for(size):
                for seals in seals_for(code, 2):
                    for came in came_for(code, 3):
                        if how_many_fit(code, came) <= 256:
                            wanted = [data for data in all_that_fit(code, came) if do_hold(seals, data)]
                            self.assertSame(all_that_hold(code, seals, came), wanted)

    def test_more_than_256_fit_but_at_most_256_of_them_hold(self):
        draw = random.Random("more")
        for size, free in ((4, list(range(16))), (4, list(range(4, 16))), (5, list(range(20, 32))), (5, list(range(16)))):
            code = (size, free, [1] * (2 ** size - len(free)))
            lasts = draw.sample(range(len(free)), 8)
            seals = [sorted(draw.sample(range(last), last // 2)) + [last] for last in lasts]
            came = [None] * 2 ** size
            for many in range(9):
                left = len(free) - many
                if left > 8:
                    self.assertRefused(TooMany, all_that_hold, code, seals[:many], came)
                else:
                    told = all_that_hold(code, seals[:many], came)
                    self.check_told(code, seals[:many], came, told, 2 ** left)

    def check_told(self, code, seals, came, told, many):
        self.assertEqual(len(told), many)
        self.assertEqual(len({tuple(data) for data in told}), many)
        self.assertSame(told, sorted(told))
        for data in told:
            self.assertTrue(do_hold(seals, data))
            self.assertEqual(came_with(word_for(code, data), [s for s, sign in enumerate(came) if sign is None]), came)

    def test_of_32_free_places_with_16_signs_kept(self):
        code = (5, list(range(32)), [])
        # By the odd spots the odd places are told, and the seals stand on the even ones.
        seals = [[number, number + 1, number + 16] for number in range(14, -2, -2)]
        data = sealed(code, seals, [1, 0, 0, 1] * 6)
        came = came_with(word_for(code, data), list(range(0, 32, 2)))
        self.assertSame(how_many_fit(code, came), 2 ** 16)
        self.assertRefused(TooMany, all_that_hold, code, seals[1:], came)
        told = all_that_hold(code, seals, came)
        self.check_told(code, seals, came, told, 256)
        self.assertIn(data, told)

    def test_where_none_holds_these_are_not_too_many(self):
        # The last sign came as 1, and by the seal it is 0.
        code = (5, list(range(32)), [])
        came = [None] * 31 + [1]
        self.assertRefused(TooMany, all_that_hold, code, [], came)
        self.assertRefused(TooMany, all_that_hold, code, [[30]], came)
        self.assertSame(self.fair(all_that_hold, code, [[31]], came), [])

    def test_nothing_is_changed(self):
        for size in SIZES:
            for code in few_free(size, 6, 4):
                for seals in seals_for(code, 2):
                    for came in came_for(code, 1):
                        self.fair(all_that_hold, code, seals, came)

    def test_a_sign_turned(self):
        for size in SIZES:
            for code in few_free(size, 6, 6):
                for seals in seals_for(code, 2):
                    data = sealed(code, seals, [1] * (len(code[1]) - len(seals)))
                    word = word_for(code, data)
                    self.assertSame(all_that_hold(code, seals, word), [data])
                    self.assertNotIn(data, all_that_hold(code, seals, turned_at(word, [0])))


class RefusalsTest(FairCase):
    def test_no_code_goes_first(self):
        for code in no_codes():
            for seals, row in (([], [0, 1]), (None, [0, 1]), ([], None), ([[]], [2])):
                for call in (holds, sealed, plain_of, all_that_hold):
                    self.assertRefused(NoCode, call, code, seals, row)

    def test_no_seals_go_next(self):
        for code in ((1, [0], [1]), (2, [1, 3], [0, 1]), (2, [0, 1, 2, 3], []), (5, list(range(32)), [])):
            for seals in no_seals(code):
                for row in ([0] * len(code[1]), [None] * 2 ** code[0], None, [2], []):
                    for call in (holds, sealed, plain_of, all_that_hold):
                        self.assertRefused(NoSeals, call, code, seals, row)

    def test_no_data(self):
        for size in SIZES:
            for code in codes_for(size)[:6]:
                for seals in seals_for(code, 2):
                    for call, many in ((holds, len(code[1])), (plain_of, len(code[1])), (sealed, len(code[1]) - len(seals))):
                        for row in self.no_rows(many):
                            self.assertRefused(NoData, call, code, seals, row)

    def no_rows(self, many):
        row = [1] * many
        things = [thing for thing in NO_NUMBERS if not isinstance(thing, list)] + [tuple(row), "1" * many, row + [0], [row]]
        for thing in NO_NUMBERS + [2, -1, 10 ** 59]:
            things += [row[1:] + [thing], [thing] + row[1:]] if many else [[thing]]
        return things + ([row[1:]] if many else [])

    def test_no_came_goes_ahead_of_too_many(self):
        for size in SIZES:
            for code in codes_for(size)[:4]:
                for seals in seals_for(code, 1)[:3]:
                    for came in no_came(size):
                        self.assertRefused(NoCame, all_that_hold, code, seals, came)


if __name__ == "__main__":
    unittest.main()
