import random
import unittest

from healhalves.codes import word_for
from healhalves.errors import NoCame, NoCode
from healhalves.lookers import lets_paper
from healhalves.reading import read_one_by_one
from tests.helping import (
    SIZES, WORDS, FairCase, all_came, all_codes, all_rows, came_with, codes_for, core_by_places, data_for, drawn_came,
    fits_came, losses_for, lost_places, no_came, no_codes, word_by_reach,
)


class Stop(Exception):
    pass


def read_by_cores(code, came):
    """By going through all cores: a place that isn't lost has the one sign that all cores with the signs ahead that
    fit what came have there."""
    size, free, fixed = code
    fits = [core for core in all_rows(2 ** size) if fits_came(WORDS[tuple(core)], came)]
    fixed = dict(zip([place for place in range(2 ** size) if place not in free], fixed))
    lost = lost_places(size, [spot for spot, sign in enumerate(came) if sign is None])
    core = []
    for place in range(2 ** size):
        signs = {other[place] for other in fits if other[:place] == core}
        if place in lost and place in free:
            return ("lost", place)
        sign = fixed[place] if place in lost else signs.pop()
        if place not in free and sign != fixed[place]:
            return ("slip", place)
        core.append(sign)
    return ("read", [core[place] for place in free])


def read_by_halves(code, came):
    """Half upon half, for sizes of which there are too many cores."""
    size, free, fixed = code
    fixed = dict(zip([place for place in range(2 ** size) if place not in free], fixed))
    core = []

    def word(came):
        if len(came) == 1:
            place = len(core)
            if came[0] is None and place in free:
                raise Stop("lost", place)
            if came[0] is not None and place in fixed and came[0] != fixed[place]:
                raise Stop("slip", place)
            core.append(fixed[place] if came[0] is None else came[0])
            return [core[-1]]
        half = len(came) // 2
        pairs = list(zip(came[:half], came[half:]))
        first = word([None if None in pair else sum(pair) % 2 for pair in pairs])
        upper = [pair[1] if pair[0] is None else (pair[0] + sign) % 2 for pair, sign in zip(pairs, first)]
        second = word(upper)
        return [(one + other) % 2 for one, other in zip(first, second)] + second

    try:
        word(came)
    except Stop as stop:
        return stop.args
    return ("read", [core[place] for place in free])


class WordsTest(FairCase):
    """Words of codes of which some signs are lost."""

    def wanted(self, code, loss, data):
        lost = [place for place in lost_places(code[0], loss) if place in code[1]]
        return ("lost", lost[0]) if lost else ("read", data)

    def test_none_some_and_all_signs_lost(self):
        for size in SIZES:
            losses = losses_for(size)
            some = losses if size <= 2 else [[], list(range(2 ** size))] + losses[-10:]
            for code in codes_for(size):
                for data in data_for(code)[:4]:
                    word = word_by_reach(size, core_by_places(code, data))
                    self.assertSame(word, word_for(code, data))
                    for loss in some:
                        told = read_one_by_one(code, came_with(word, loss))
                        self.assertSame(told, self.wanted(code, loss, data))

    def test_all_losses_of_size_three(self):
        for code in codes_for(3):
            for data in data_for(code)[-1:]:
                word = word_for(code, data)
                for loss in losses_for(3):
                    self.assertSame(read_one_by_one(code, came_with(word, loss)), self.wanted(code, loss, data))

    def test_nothing_lost_and_all_lost(self):
        for size in SIZES:
            for code in codes_for(size):
                for data in data_for(code):
                    self.assertSame(self.fair(read_one_by_one, code, word_for(code, data)), ("read", data))
                self.assertSame(self.fair(read_one_by_one, code, [None] * 2 ** size), ("lost", code[1][0]))


class CameTest(FairCase):
    def test_by_hand(self):
        code = (2, [1, 3], [0, 1])
        self.assertSame(self.fair(read_one_by_one, code, [0, 1, 1, 0]), ("read", [1, 0]))
        self.assertSame(self.fair(read_one_by_one, code, [0, 1, 1, 1]), ("slip", 0))
        self.assertSame(self.fair(read_one_by_one, code, [None, 1, 1, 0]), ("read", [1, 0]))
        self.assertSame(self.fair(read_one_by_one, code, [None, None, 1, 0]), ("lost", 1))
        self.assertSame(self.fair(read_one_by_one, code, [None, 1, 0, 0]), ("slip", 2))
        self.assertSame(self.fair(read_one_by_one, code, [None] * 4), ("lost", 1))

    def test_a_slip_ahead_of_a_loss_and_a_loss_ahead_of_a_slip(self):
        # By the loss of the spots 2 and 3 the places 0 and 1 are lost, by that of 1 and 3 the places 0 and 2.
        self.assertSame(read_one_by_one((2, [2], [0, 0, 0]), [1, None, 0, None]), ("slip", 1))
        self.assertSame(read_one_by_one((2, [2], [0, 0, 0]), [0, None, 0, None]), ("lost", 2))
        self.assertSame(read_one_by_one((2, [1], [0, 0, 0]), [1, 0, None, None]), ("lost", 1))
        self.assertSame(read_one_by_one((2, [3], [0, 0, 0]), [1, 0, None, None]), ("slip", 2))
        self.assertSame(read_one_by_one((2, [3], [0, 0, 0]), [1, 1, None, None]), ("read", [1]))

    def test_all_that_can_come_of_small_sizes(self):
        for size in (1, 2):
            seen = set()
            for code in all_codes(size):
                for came in all_came(size):
                    wanted = read_by_cores(code, came)
                    self.assertSame(read_one_by_one(code, came), wanted)
                    self.assertSame(read_by_halves(code, came), wanted)
                    seen.add(wanted[0])
            self.assertEqual(seen, {"slip", "lost", "read"})

    def test_drawn_of_size_three(self):
        draw = random.Random("came three")
        for code in codes_for(3):
            for came in drawn_came(draw, 3, 40):
                wanted = read_by_cores(code, came)
                self.assertSame(read_one_by_one(code, came), wanted)
                self.assertSame(read_by_halves(code, came), wanted)

    def test_drawn_of_greater_sizes(self):
        draw = random.Random("came")
        for size in (4, 5):
            for code in codes_for(size):
                for came in drawn_came(draw, size, 40):
                    self.assertSame(read_one_by_one(code, came), read_by_halves(code, came))

    def test_words_with_some_signs_turned(self):
        draw = random.Random("turned")
        for size in SIZES:
            seen = set()
            for code in codes_for(size):
                for data in data_for(code)[:3]:
                    for many in (1, 2, 3):
                        came = came_with(word_for(code, data), draw.sample(range(2 ** size), draw.randrange(2 ** size)))
                        for spot in [draw.randrange(2 ** size) for _ in range(many)]:
                            came[spot] = None if came[spot] is None else 1 - came[spot]
                        wanted = read_by_halves(code, came)
                        self.assertSame(read_one_by_one(code, came), wanted)
                        seen.add(wanted[0])
            self.assertEqual(seen, {"slip", "lost", "read"})

    def test_all_rows_by_which_a_place_is_told_tell_the_same_sign(self):
        numbers = [[spot for spot in range(4) if row[spot]] for row in all_rows(4)]
        rows = [("told", spots, places) for spots in numbers for places in numbers]
        for loss in losses_for(2):
            papers = {place: [row for row in rows if lets_paper(2, loss, place, row)] for place in range(4)}
            for code in codes_for(2):
                for came in [came_with(word, loss) for word in all_rows(4)]:
                    told = read_one_by_one(code, came)
                    end = 4 if told[0] == "read" else told[1]
                    core = core_by_places(code, told[1] if told[0] == "read" else [0] * len(code[1]))
                    for place in range(end):
                        signs = {
                            (sum(came[spot] for spot in row[1]) + sum(core[ahead] for ahead in row[2])) % 2
                            for row in papers[place]
                        }
                        self.assertLessEqual(len(signs), 1)
                        for sign in signs:
                            core[place] = sign

    def test_nothing_is_changed(self):
        draw = random.Random("changed")
        for size in SIZES:
            for code in codes_for(size)[:8]:
                for came in drawn_came(draw, size, 5):
                    self.fair(read_one_by_one, code, came)


class RefusalsTest(FairCase):
    def test_no_code_goes_first(self):
        for code in no_codes():
            for came in ([0, 0, 0, 0], None, [2], []):
                self.assertRefused(NoCode, read_one_by_one, code, came)

    def test_no_came(self):
        for size in SIZES:
            for code in codes_for(size)[:4]:
                for came in no_came(size):
                    self.assertRefused(NoCame, read_one_by_one, code, came)


if __name__ == "__main__":
    unittest.main()
