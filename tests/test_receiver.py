import random
import unittest
from copy import deepcopy

from healhalves.asking import asking_paper
from healhalves.codes import word_for
from healhalves.errors import Clash, NoCode, NoDeed, NoPlace, NoSign
from healhalves.fitting import all_that_fit, how_many_fit
from healhalves.receiver import Receiver
from tests.helping import (
    NO_NUMBERS, SIZES, FairCase, all_came, all_codes, all_rows, came_for, codes_for, data_for, few_free, fit_by_all_data,
    how_many_by_rank, no_codes, no_places,
)

NO_SIGNS = NO_NUMBERS + [2, -1, 10 ** 59, -(10 ** 59), "?"]


def heard(code, came, order=None):
    """A receiver that heard what came, spot by spot."""
    one = Receiver(code)
    for spot in order or range(len(came)):
        if came[spot] is not None:
            one.hear(spot, came[spot])
    return one


def answers(one):
    return [one.came(), one.left(), one.known(), one.data(), one.wants()]


def fixed_at(code, place, sign):
    """The code with one free place fixed."""
    size, free, fixed = code
    signs = dict(zip([k for k in range(2 ** size) if k not in free], fixed))
    signs[place] = sign
    return (size, [k for k in free if k != place], [signs[k] for k in sorted(signs)])


def known_by_fixing(code, came):
    """A free place is known where, fixed otherwise, nothing fits."""
    if not how_many_by_rank(code, came):
        return [None] * len(code[1])
    fits = [[how_many_by_rank(fixed_at(code, place, sign), came) > 0 for sign in (0, 1)] for place in code[1]]
    return [None if all(pair) else pair.index(True) for pair in fits]


class AnswersTest(FairCase):
    def test_by_hand(self):
        one = Receiver((2, [1, 3], [0, 1]))
        self.assertSame(answers(one)[:4], [[None] * 4, 2, [None, None], None])
        self.assertEqual(len(one.wants()), 2)
        self.assertIs(one.hear(0, 0), None)
        self.assertSame(answers(one)[:4], [[0, None, None, None], 1, [None, None], None])
        self.assertIs(one.hear(3, 0), None)
        self.assertSame(answers(one), [[0, None, None, 0], 0, [1, 0], [1, 0], []])
        self.assertIs(one.hear(1, 0), None)
        self.assertSame(answers(one), [[0, 0, None, 0], None, [None, None], None, []])
        self.assertIs(one.forget(), None)
        self.assertSame(answers(one), [[0, None, None, 0], 0, [1, 0], [1, 0], []])
        self.assertIs(one.forget(), None)
        self.assertIs(one.forget(), None)
        self.assertSame(answers(one)[:4], [[None] * 4, 2, [None, None], None])
        self.assertRefused(NoDeed, one.forget)

    def check_answers(self, code, came, one):
        many = how_many_by_rank(code, came)
        self.assertSame(one.came(), came)
        left = one.left()
        self.assertSame(left, many.bit_length() - 1 if many else None)
        self.assertSame(how_many_fit(code, came), 0 if left is None else 2 ** left)
        self.assertSame(one.known(), known_by_fixing(code, came))
        self.assertSame(one.data(), all_that_fit(code, came)[0] if many == 1 else None)
        wants = one.wants()
        self.assertEqual(len(wants), left or 0)
        self.assertTrue(all(came[spot] is None for spot in wants))
        loss = [spot for spot, sign in enumerate(came) if sign is None]
        self.assertSame(wants, asking_paper(code, loss)[1] if many else [])
        return "none" if left is None else "one" if left == 0 else "more"

    def test_all_that_can_come_of_small_sizes(self):
        for size in (1, 2):
            for code in list(all_codes(size))[:: 1 if size == 1 else 4]:
                for came in all_came(size):
                    self.check_answers(code, came, heard(code, came))

    def test_of_each_size_against_fitting_and_asking(self):
        for size in SIZES:
            seen = set()
            for code in codes_for(size):
                for came in came_for(code, 3):
                    seen.add(self.check_answers(code, came, heard(code, came)))
            self.assertEqual(seen, {"none", "one", "more"})

    def test_what_is_known_is_what_all_that_fit_have(self):
        for size in SIZES:
            for code in few_free(size, 5, 8):
                for came in came_for(code, 3):
                    fit = fit_by_all_data(code, came)
                    signs = [{data[k] for data in fit} for k in range(len(code[1]))]
                    one = heard(code, came)
                    self.assertSame(one.known(), [some.pop() if len(some) == 1 else None for some in signs])
                    self.assertSame(one.data(), fit[0] if len(fit) == 1 else None)

    def test_some_places_are_known_while_others_are_not(self):
        one = Receiver((2, [0, 1, 2, 3], []))
        one.hear(3, 1)
        one.hear(2, 1)
        self.assertSame(one.known(), [None, None, 0, 1])
        self.assertSame(one.left(), 2)
        self.assertIs(one.data(), None)


class DeedsTest(FairCase):
    def test_hearing_and_forgetting_step_by_step(self):
        draw = random.Random("deeds")
        for size in SIZES:
            for code in codes_for(size)[:8]:
                one, deeds = Receiver(code), []
                for _ in range(60):
                    spot, sign = draw.randrange(2 ** size), draw.randrange(2)
                    signs = dict(deeds)
                    if draw.randrange(3) == 0:
                        if deeds:
                            self.assertIs(one.forget(), None)
                            deeds.pop()
                        else:
                            self.assertRefused(NoDeed, one.forget)
                    elif signs.get(spot, sign) != sign:
                        self.assertRefused(Clash, one.hear, spot, sign)
                    else:
                        self.assertIs(one.hear(spot, sign), None)
                        deeds += [] if spot in signs else [(spot, sign)]
                    self.assertSame(one.came(), [dict(deeds).get(k) for k in range(2 ** size)])

    def test_the_same_sign_again_changes_nothing_and_isnt_forgotten(self):
        for size in SIZES:
            one = Receiver((size, [0], [0] * (2 ** size - 1)))
            one.hear(0, 1)
            one.hear(1, 0)
            for _ in range(3):
                self.assertIs(one.hear(0, 1), None)
            self.assertSame(one.came()[:2], [1, 0])
            one.forget()
            self.assertSame(one.came()[:2], [1, None])
            one.hear(0, 1)
            one.forget()
            self.assertSame(one.came(), [None] * 2 ** size)
            self.assertRefused(NoDeed, one.forget)

    def test_another_sign_is_refused_until_the_first_one_is_forgotten(self):
        one = Receiver((2, [1, 3], [0, 1]))
        one.hear(2, 1)
        before = answers(one)
        self.assertRefused(Clash, one.hear, 2, 0)
        self.assertSame(answers(one), before)
        one.forget()
        one.hear(2, 0)
        self.assertSame(one.came(), [None, None, 0, None])
        self.assertRefused(Clash, one.hear, 2, 1)

    def test_twins_go_on_by_themselves(self):
        for size in SIZES:
            for code in codes_for(size)[:8]:
                came = came_for(code, 1)[1]
                one = heard(code, came, list(range(2 ** size))[::-1])
                two = one.twin()
                self.assertIsInstance(two, Receiver)
                self.assertIsNot(two, one)
                self.assertSame(answers(two), answers(one))
                before = answers(one)
                # What is forgotten is what was heard last, by the twin too.
                two.forget()
                self.assertSame(two.came(), [None] + came[1:])
                self.assertSame(answers(one), before)
                two.hear(0, 1 - came[0])
                self.assertSame(answers(one), before)
                one.forget()
                one.forget()
                self.assertSame(two.came(), [1 - came[0]] + came[1:])
                self.assertSame(one.came(), [None, None] + came[2:])

    def test_a_twin_of_a_new_receiver_and_a_twin_of_a_twin(self):
        one = Receiver((1, [0], [1]))
        two = one.twin()
        three = two.twin()
        self.assertRefused(NoDeed, three.forget)
        three.hear(0, 1)
        two.hear(0, 0)
        self.assertSame([one.came(), two.came(), three.came()], [[None, None], [0, None], [1, None]])

    def test_receivers_of_the_very_same_code_whose_lists_are_changed_then(self):
        for size in SIZES:
            for code in codes_for(size)[:8]:
                same = deepcopy(code)
                came = came_for(code, 1)[1]
                one, two = Receiver(same), Receiver(same)
                same[1].reverse()
                same[1].append("spoilt")
                same[2].append("spoilt")
                same[2].reverse()
                one.hear(0, came[0])
                self.assertSame(two.came(), [None] * 2 ** size)
                self.assertSame(answers(two), answers(Receiver(code)))
                for spot in range(1, 2 ** size):
                    one.hear(spot, came[spot])
                self.assertSame(answers(one), answers(heard(code, came)))
                self.assertSame(answers(two.twin()), answers(Receiver(code)))

    def test_told_lists_are_the_askers_own(self):
        for size in SIZES:
            for code in codes_for(size)[:8]:
                before = deepcopy(code)
                for came in came_for(code, 1):
                    one = heard(code, came)
                    wanted = answers(one)
                    for told in answers(one) + answers(one.twin()):
                        if isinstance(told, list):
                            told.append("spoilt")
                            told.reverse()
                    self.assertSame(answers(one), wanted)
                self.assertSame(code, before)


class OrderTest(FairCase):
    def test_the_order_of_hearing_is_all_the_same(self):
        draw = random.Random("orders")
        for size in SIZES:
            for code in codes_for(size):
                for came in came_for(code, 2)[::2]:
                    wanted = answers(heard(code, came))
                    for _ in range(3):
                        order = draw.sample(range(2 ** size), 2 ** size)
                        self.assertSame(answers(heard(code, came, order)), wanted)

    def test_what_was_forgotten_ahead_is_all_the_same(self):
        for size in SIZES:
            for code in codes_for(size)[:6]:
                came = came_for(code, 1)[-1]
                one = Receiver(code)
                for spot in range(2 ** size):
                    one.hear(spot, 1)
                for spot in range(2 ** size):
                    one.forget()
                for spot in range(2 ** size):
                    if came[spot] is not None:
                        one.hear(spot, came[spot])
                self.assertSame(answers(one), answers(heard(code, came)))

    def test_what_is_known_stays_as_long_as_something_fits(self):
        draw = random.Random("stays")
        for size in SIZES:
            for code in codes_for(size):
                for data in data_for(code)[-2:]:
                    one, known, left = Receiver(code), [None] * len(code[1]), len(code[1])
                    word = word_for(code, data)
                    for spot in draw.sample(range(2 ** size), 2 ** size):
                        one.hear(spot, word[spot])
                        now = one.known()
                        self.assertTrue(all(was is None or was == sign for was, sign in zip(known, now)))
                        self.assertTrue(all(sign is None or sign == own for sign, own in zip(now, data)))
                        self.assertIn(one.left(), (left, left - 1))
                        known, left = now, one.left()
                    self.assertSame(one.data(), data)

    def test_whatever_is_heard_at_the_wanted_spots_one_data_fits_then(self):
        draw = random.Random("wanted")
        for size in SIZES:
            for code in codes_for(size):
                for came in came_for(code, 2):
                    one = heard(code, came)
                    wants = one.wants()
                    if one.left() is not None:
                        drawn = [[draw.randrange(2) for _ in wants] for _ in range(3)]
                        for signs in all_rows(len(wants)) if len(wants) <= 2 else drawn:
                            two = one.twin()
                            for spot, sign in zip(wants, signs):
                                two.hear(spot, sign)
                            self.assertSame(two.left(), 0)
                            self.assertSame(two.data(), two.known())
                            self.assertSame([two.data()], all_that_fit(code, two.came()))
                            self.assertSame(two.wants(), [])


class RefusalsTest(FairCase):
    def test_no_code(self):
        for code in no_codes():
            self.assertRefused(NoCode, Receiver, code)

    def test_no_place_goes_first_and_changes_nothing(self):
        for size in SIZES:
            one = Receiver(codes_for(size)[0])
            one.hear(0, 1)
            before = answers(one)
            for spot in no_places(size):
                for sign in (0, 1, None, 2, True):
                    self.assertRefused(NoPlace, one.hear, spot, sign)
            self.assertSame(answers(one), before)
            one.forget()
            self.assertRefused(NoDeed, one.forget)

    def test_no_sign_goes_ahead_of_clash_and_changes_nothing(self):
        for size in SIZES:
            one = Receiver(codes_for(size)[0])
            one.hear(0, 1)
            before = answers(one)
            for sign in NO_SIGNS:
                for spot in (0, 1, 2 ** size - 1):
                    self.assertRefused(NoSign, one.hear, spot, sign)
            self.assertSame(answers(one), before)
            one.forget()
            self.assertRefused(NoDeed, one.forget)

    def test_a_clash_changes_nothing(self):
        for size in SIZES:
            code = codes_for(size)[3]
            one = heard(code, [0, 1] * 2 ** (size - 1))
            before = answers(one)
            for spot in range(2 ** size):
                self.assertRefused(Clash, one.hear, spot, 1 - spot % 2)
            self.assertSame(answers(one), before)
            for _ in range(2 ** size):
                one.forget()
            self.assertRefused(NoDeed, one.forget)
            self.assertSame(answers(one), answers(Receiver(code)))


if __name__ == "__main__":
    unittest.main()
