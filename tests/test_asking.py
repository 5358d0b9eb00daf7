import itertools
import random
import unittest

from healhalves.asking import asking_paper, open_by
from healhalves.asklookers import lets_asking
from healhalves.codes import word_for
from healhalves.errors import NoCode, NoLoss
from healhalves.fitting import all_that_fit, how_many_fit
from tests.helping import (
    SIZES, FairCase, all_codes, all_rows, came_with, codes_for, data_for, fit_by_all_data, how_many_by_rank, is_asking,
    losses_drawn, losses_for, no_codes, no_losses,
)


def heard(came, spots, signs):
    told = dict(zip(spots, signs))
    return [told.get(spot, sign) for spot, sign in enumerate(came)]


class OpenByTest(FairCase):
    def test_by_hand(self):
        code = (2, [1, 3], [0, 1])
        self.assertSame(self.fair(open_by, code, []), 0)
        self.assertSame(self.fair(open_by, code, [0]), 0)
        self.assertSame(self.fair(open_by, code, [0, 1]), 1)
        self.assertSame(self.fair(open_by, code, [1, 2, 3]), 1)
        self.assertSame(self.fair(open_by, code, [0, 1, 2, 3]), 2)

    def test_all_codes_and_losses_of_small_sizes(self):
        for size in (1, 2):
            for code in all_codes(size):
                for loss in losses_for(size):
                    for data in all_rows(len(code[1])):
                        fit = fit_by_all_data(code, came_with(word_for(code, data), loss))
                        self.assertEqual(2 ** open_by(code, loss), len(fit))

    def test_against_how_many_fit(self):
        for size in SIZES:
            for code in codes_for(size):
                for loss in losses_for(size)[-10:] + losses_drawn(size):
                    told = open_by(code, loss)
                    self.assertIs(type(told), int)
                    for data in data_for(code)[-3:]:
                        came = came_with(word_for(code, data), loss)
                        self.assertEqual(how_many_fit(code, came), 2 ** told)
                        self.assertEqual(how_many_by_rank(code, came), 2 ** told)

    def test_nothing_lost_and_all_lost(self):
        for size in SIZES:
            for code in codes_for(size):
                self.assertSame(self.fair(open_by, code, []), 0)
                self.assertSame(self.fair(open_by, code, list(range(2 ** size))), len(code[1]))

    def test_nothing_is_changed(self):
        for size in SIZES:
            for code in codes_for(size)[:8]:
                for loss in losses_drawn(size, 3):
                    self.fair(open_by, code, loss)


class AskingPaperTest(FairCase):
    def test_by_hand(self):
        code = (2, [1, 3], [0, 1])
        told = self.fair(asking_paper, code, [])
        self.assertSame(told[:3], ("asked", [], []))
        told = self.fair(asking_paper, code, [0, 1])
        self.assertIn(told[1], [[0], [1]])
        self.assertSame(told[2], [[0, 1, 0, 0]])
        self.assertIn(told[3][1], [([3], []), ([2], [2])])
        told = self.fair(asking_paper, (1, [0], [1]), [0])
        self.assertSame(told, ("asked", [0], [[1, 0]], [([0], [1])]))

    def test_all_codes_and_losses_of_small_sizes(self):
        for size in (1, 2):
            for code in all_codes(size):
                for loss in losses_for(size):
                    self.check_paper(code, loss)

    def test_of_each_size(self):
        for size in SIZES:
            for code in codes_for(size):
                for loss in losses_drawn(size):
                    self.check_paper(code, loss)

    def test_all_losses_of_size_three(self):
        for code in codes_for(3)[:6]:
            for loss in losses_for(3):
                self.check_paper(code, loss)

    def check_paper(self, code, loss):
        paper = asking_paper(code, loss)
        self.assertTrue(is_asking(code, loss, paper), (code, loss, paper))
        self.assertIs(lets_asking(code, loss, paper), True)
        self.assertEqual(len(paper[1]), open_by(code, loss))
        self.assertEqual(len(paper[2]), open_by(code, loss))
        self.assertTrue(set(paper[1]) <= set(loss))

    def test_nothing_is_changed(self):
        for size in SIZES:
            for code in codes_for(size)[:8]:
                for loss in losses_drawn(size, 3):
                    paper = self.fair(asking_paper, code, loss)
                    self.assertIs(self.fair(lets_asking, code, loss, paper), True)


class AskedAgainTest(FairCase):
    """What is known with the asked spots, and with fewer."""

    def test_the_asked_spots_leave_one_data_whatever_they_are(self):
        draw = random.Random("asked")
        for size in SIZES:
            for code in codes_for(size):
                for loss in losses_drawn(size, 5):
                    spots = asking_paper(code, loss)[1]
                    came = came_with(word_for(code, data_for(code)[-1]), loss)
                    many = len(spots)
                    drawn = [[draw.randrange(2) for _ in spots] for _ in range(6)]
                    seen = []
                    for signs in all_rows(many) if many <= 3 else drawn:
                        told = all_that_fit(code, heard(came, spots, signs))
                        self.assertEqual(len(told), 1)
                        self.assertNotIn(told, seen if many <= 3 else [])
                        seen.append(told)

    def test_the_words_own_signs_leave_its_data(self):
        for size in SIZES:
            for code in codes_for(size):
                for loss in losses_drawn(size, 5):
                    for data in data_for(code)[-2:]:
                        word = word_for(code, data)
                        spots = asking_paper(code, loss)[1]
                        came = heard(came_with(word, loss), spots, [word[spot] for spot in spots])
                        self.assertSame(all_that_fit(code, came), [data])

    def test_any_fewer_spots_leave_two_data_or_more(self):
        draw = random.Random("fewer")
        for size in SIZES:
            for code in codes_for(size):
                for loss in losses_drawn(size, 5):
                    many = open_by(code, loss)
                    word = word_for(code, data_for(code)[-1])
                    for _ in range(6 if many else 0):
                        spots = draw.sample(loss, draw.randrange(many))
                        came = heard(came_with(word, loss), spots, [word[spot] for spot in spots])
                        self.assertGreaterEqual(how_many_fit(code, came), 2)

    def test_all_fewer_spots_of_small_sizes(self):
        for size in (1, 2):
            for code in all_codes(size):
                for loss in losses_for(size):
                    many = open_by(code, loss)
                    word = word_for(code, data_for(code)[-1])
                    for fewer in range(many):
                        for spots in itertools.combinations(loss, fewer):
                            came = heard(came_with(word, loss), spots, [word[spot] for spot in spots])
                            self.assertGreaterEqual(how_many_fit(code, came), 2)


class RefusalsTest(FairCase):
    def test_no_code_goes_first(self):
        for call in (open_by, asking_paper):
            for code in no_codes():
                for loss in ([], [0, 1], None, [1, 0], [4]):
                    self.assertRefused(NoCode, call, code, loss)

    def test_no_loss(self):
        for call in (open_by, asking_paper):
            for size in SIZES:
                for code in codes_for(size)[:4]:
                    for loss in no_losses(size):
                        self.assertRefused(NoLoss, call, code, loss)


if __name__ == "__main__":
    unittest.main()
