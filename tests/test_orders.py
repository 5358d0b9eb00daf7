import itertools
import random
import unittest
from fractions import Fraction

from healhalves.counts import counts_of
from healhalves.errors import NoPlace, NoSize
from healhalves.losses import places_lost
from healhalves.orders import lets_order, order_paper
from healhalves.shares import shares_of
from healhalves.steps import is_step, turned_loss
from tests.helping import (
    NO_NUMBERS, NO_SIZES, SIZES, Agreeable, FairCase, changed_forms, changed_lists, figures, is_order, losses_for,
    no_places,
)

WORDS = ("row", "ones", "told", "open", "", "Row", "ones ", None, 1, ("row",), ["ones"], b"row", Agreeable())
NO_PAPERS = NO_NUMBERS + [0, 1, 2, "row", "ones", ("row",), ("ones",), ("row", [0]), ("ones", 1, 1), ("ones", [1])] + [
    ("row", None, None), ("row", [], []), ("row", [], [0, 1]), ("row", (0,), (0, 1)), ("row", "0", "01"), ("ones", None),
    ("row", {}, {}), ("ones", "1"), ("ones", True), ("ones", (1,)), ("ones", 0), ("ones", -1), ("ones", 6), ("ones", 99),
    ("ones", 10 ** 59), ("ones", Agreeable()), ("row", Agreeable(), [0, 1]), ("row", [0], Agreeable()), ("row", 0, 0),
    {"row": [0]}, ["ones", 1], ["row", [0], [0, 1]], [("ones", 1)], (("ones", 1),), ("row", [None], [0, 1]), ((), (), ()),
    ("told", [0], []), ("open", [0, 1]), ("row", [[0]], [[0, 1]]), ("row", [0] * 1000, [0, 1]), ("row", [0], [0] * 1000),
]


def all_pairs(size):
    return itertools.product(range(2 ** size), repeat=2)


def leads_up(size):
    """All pairs of places with a row of steps from the one to the other, by walking step after step."""
    above = {place: [other for other in range(2 ** size) if is_step(size, place, other)] for place in range(2 ** size)}
    found = {(place, place) for place in above}
    while True:
        more = {(one, further) for one, other in found for further in above[other]} - found
        if not more:
            return found
        found |= more


def rows_up(size, one, other):
    """All rows of steps from the one place to the other."""
    if one == other:
        return [[one]]
    steps = [further for further in range(2 ** size) if is_step(size, one, further)]
    return [[one] + row for further in steps if further <= other for row in rows_up(size, further, other)]


def identity(size):
    return list(range(2 ** size))


def changed_papers(size, paper):
    kinds = changed_forms(paper, WORDS)
    if paper[0] == "ones":
        things = NO_NUMBERS + list(range(-2, 8)) + [10 ** 59, [paper[1]], (paper[1],), str(paper[1])]
        return kinds + [("ones", thing) for thing in things] + [("row", [0], identity(size))]
    for part in (1, 2):
        for row in changed_lists(paper[part]):
            kinds.append(paper[:part] + (row,) + paper[part + 1:])
    for place in range(2 ** size):
        for at in range(len(paper[1])):
            kinds.append(("row", paper[1][:at] + [place] + paper[1][at:], paper[2]))
            kinds.append(("row", paper[1][:at] + [place] + paper[1][at + 1:], paper[2]))
        kinds.append(("row", paper[1] + [place], paper[2]))
    for one, other in itertools.combinations(range(2 ** size), 2):
        turn = list(paper[2])
        turn[one], turn[other] = turn[other], turn[one]
        kinds.append(("row", paper[1], turn))
    return kinds + [("row", paper[2], paper[1]), ("row", paper[1], identity(size)), ("ones", 1), ("ones", size)]


class OrderPaperTest(FairCase):
    def test_by_hand(self):
        self.assertSame(self.fair(order_paper, 1, 0, 0), ("row", [0], [0, 1]))
        self.assertSame(self.fair(order_paper, 1, 0, 1), ("row", [0, 1], [0, 1]))
        self.assertSame(self.fair(order_paper, 1, 1, 0), ("ones", 1))
        self.assertSame(self.fair(order_paper, 2, 1, 2), ("row", [1, 2], [0, 2, 1, 3]))
        self.assertSame(self.fair(order_paper, 2, 2, 1), ("ones", 1))
        self.assertSame(self.fair(order_paper, 3, 3, 4), ("ones", 3))
        self.assertSame(self.fair(order_paper, 3, 1, 4), ("row", [1, 2, 4], [0, 2, 4, 6, 1, 3, 5, 7]))

    def test_of_all_pairs_the_kind_that_is_due_let_by_and_short(self):
        for size in SIZES:
            above = leads_up(size)
            for worse, better in all_pairs(size):
                paper = order_paper(size, worse, better)
                self.assertEqual(paper[0], "row" if (worse, better) in above else "ones")
                self.assertIs(lets_order(size, worse, better, paper), True)
                self.assertTrue(is_order(size, worse, better, paper), (size, worse, better, paper))
                self.assertTrue(paper[0] == "ones" or len(paper[1]) <= 16)

    def test_nothing_is_kept(self):
        for size in SIZES:
            for worse, better in all_pairs(min(size, 4)):
                paper = self.fair(order_paper, size, worse, better)
                self.assertIs(self.fair(lets_order, size, worse, better, paper), True)


class LetsOrderTest(FairCase):
    def test_by_hand(self):
        self.assertIs(lets_order(2, 0, 3, ("row", [0, 1, 3], [0, 1, 2, 3])), True)
        self.assertIs(lets_order(2, 0, 3, ("row", [0, 2, 3], [0, 1, 2, 3])), True)
        self.assertIs(lets_order(2, 0, 3, ("row", [0, 1, 2, 3], [0, 2, 1, 3])), True)
        self.assertIs(lets_order(2, 0, 3, ("row", [0, 1, 2, 3], [0, 1, 2, 3])), False)
        self.assertIs(lets_order(2, 0, 3, ("row", [0, 3], [0, 1, 2, 3])), False)
        self.assertIs(lets_order(2, 3, 3, ("row", [3], [0, 1, 2, 3])), True)
        self.assertIs(lets_order(2, 3, 3, ("row", [3, 3], [0, 1, 2, 3])), False)
        self.assertIs(lets_order(3, 1, 4, ("row", [1, 2, 4], [0, 2, 4, 6, 1, 3, 5, 7])), True)
        self.assertIs(lets_order(3, 1, 4, ("row", [1, 2, 4], [0, 4, 1, 5, 2, 6, 3, 7])), False)
        self.assertIs(lets_order(3, 3, 4, ("ones", 3)), True)
        self.assertIs(lets_order(3, 3, 4, ("ones", 2)), False)
        self.assertIs(lets_order(3, 3, 4, ("ones", 1)), False)
        self.assertIs(lets_order(3, 4, 3, ("ones", 1)), True)
        self.assertIs(lets_order(3, 4, 3, ("ones", 2)), False)
        self.assertIs(lets_order(3, 4, 3, ("ones", 4)), False)

    def test_all_numbers_of_ones(self):
        for size in SIZES:
            for worse, better in all_pairs(size):
                for many in range(-1, size + 3):
                    paper = ("ones", many)
                    self.assertIs(lets_order(size, worse, better, paper), is_order(size, worse, better, paper))

    def test_all_rows_and_no_row_where_ones_are_told(self):
        for size in (1, 2, 3, 4):
            for worse, better in all_pairs(size):
                rows = rows_up(size, worse, better)
                for places in rows[:6] + rows[-6:]:
                    for turn in (self.turn_of_row(size, places), identity(size)):
                        paper = ("row", places, turn)
                        self.assertIs(lets_order(size, worse, better, paper), is_order(size, worse, better, paper))
                    self.assertTrue(lets_order(size, worse, better, ("row", places, self.turn_of_row(size, places))))
                ones = [many for many in range(1, size + 1) if lets_order(size, worse, better, ("ones", many))]
                self.assertEqual(rows == [], ones != [])

    def turn_of_row(self, size, places):
        """By the figures alone: each spot's are exchanged where the steps say, that of the last step first."""
        turn = []
        for spot in range(2 ** size):
            written = list(figures(size, spot))
            for one, other in list(zip(places, places[1:]))[::-1]:
                unlike = [at for at in range(size) if figures(size, one)[at] != figures(size, other)[at]]
                written[unlike[0]], written[unlike[-1]] = written[unlike[-1]], written[unlike[0]]
            turn.append(int("".join(written), 2))
        return turn

    def test_all_short_rows_of_small_sizes(self):
        """Whoever wrote it: of each pair of places papers of just one kind are let by."""
        for size in (1, 2):
            numbers = range(2 ** size)
            rows = [list(row) for many in range(5) for row in itertools.product(numbers, repeat=many)]
            turns = [list(turn) for turn in itertools.permutations(numbers)]
            for worse, better in all_pairs(size):
                words = set()
                papers = [("row", row, turn) for row in rows for turn in turns]
                for paper in papers + [("ones", many) for many in range(-1, 4)]:
                    wanted = is_order(size, worse, better, paper)
                    self.assertIs(lets_order(size, worse, better, paper), wanted)
                    if wanted:
                        words.add(paper[0])
                self.assertEqual(len(words), 1)

    def test_changed_papers_are_let_by_just_where_they_still_hold(self):
        draw = random.Random("changed")
        for size in SIZES:
            pairs = list(all_pairs(size))
            for worse, better in pairs if size <= 2 else draw.sample(pairs, 24 if size == 3 else 8):
                for paper in changed_papers(size, order_paper(size, worse, better)):
                    wanted = is_order(size, worse, better, paper)
                    self.assertIs(lets_order(size, worse, better, paper), wanted, (size, worse, better, paper))

    def test_a_paper_on_one_pair_is_none_on_others_unless_it_holds_there(self):
        for size in (1, 2, 3):
            papers = [order_paper(size, worse, better) for worse, better in all_pairs(size)]
            for worse, better in all_pairs(size):
                for paper in papers:
                    self.assertIs(lets_order(size, worse, better, paper), is_order(size, worse, better, paper))

    def test_truths_are_no_numbers_in_papers(self):
        self.assertIs(lets_order(1, 1, 0, ("ones", True)), False)
        self.assertIs(lets_order(1, 0, 1, ("row", [0, True], [0, 1])), False)
        self.assertIs(lets_order(1, 0, 1, ("row", [False, 1], [0, 1])), False)
        self.assertIs(lets_order(1, 0, 1, ("row", [0, 1], [0, True])), False)
        self.assertIs(lets_order(1, 0, 1, ("row", [0, 1], [False, 1])), False)

    def test_papers_of_another_size(self):
        self.assertIs(lets_order(2, 0, 1, order_paper(1, 0, 1)), False)
        self.assertIs(lets_order(1, 0, 1, order_paper(2, 0, 1)), False)

    def test_anything_is_answered_and_nothing_is_changed(self):
        for size in SIZES:
            last = 2 ** size - 1
            for worse, better in ((0, 0), (0, last), (last, 0), (last, last)):
                for paper in NO_PAPERS:
                    wanted = is_order(size, worse, better, paper)
                    self.assertIs(self.fair(lets_order, size, worse, better, paper), wanted, paper)

    def test_what_loses_the_better_place_loses_turned_the_worse_one(self):
        for size in (1, 2, 3):
            lost = {tuple(loss): places_lost(size, loss) for loss in losses_for(size)}
            for worse, better in all_pairs(size):
                for places in rows_up(size, worse, better)[:8]:
                    paper = ("row", places, self.turn_of_row(size, places))
                    self.assertTrue(lets_order(size, worse, better, paper))
                    for loss in lost:
                        if better in lost[loss]:
                            self.assertIn(worse, lost[tuple(turned_loss(size, paper[2], list(loss)))])

    def test_a_better_place_has_no_greater_counts_and_no_greater_share(self):
        for size in SIZES:
            counts = [counts_of(size, place) for place in range(2 ** size)]
            roads = [[share] * 2 ** size for share in ((1, 10), (1, 2), (8, 9))]
            shares = [[Fraction(*share) for share in shares_of(road)] for road in roads]
            for worse, better in all_pairs(size):
                if order_paper(size, worse, better)[0] == "row":
                    self.assertTrue(all(upper <= lower for upper, lower in zip(counts[better], counts[worse])))
                    self.assertTrue(all(row[better] <= row[worse] for row in shares))


class RefusalsTest(FairCase):
    def test_no_size_goes_first(self):
        for size in NO_SIZES:
            for worse, better in ((0, 1), (None, 1), (0, None), (-1, 99), (True, True)):
                self.assertRefused(NoSize, order_paper, size, worse, better)
                for paper in (("row", [0, 1], [0, 1]), ("ones", 1), None):
                    self.assertRefused(NoSize, lets_order, size, worse, better, paper)

    def test_no_place(self):
        for size in SIZES:
            for thing in no_places(size):
                for worse, better in ((thing, 0), (0, thing), (thing, thing)):
                    self.assertRefused(NoPlace, order_paper, size, worse, better)
                    for paper in (("row", [0], [0, 1]), ("ones", 1), None):
                        self.assertRefused(NoPlace, lets_order, size, worse, better, paper)


if __name__ == "__main__":
    unittest.main()
