import itertools
import random
import unittest

from healhalves.errors import NoLoss, NoPlace, NoSize
from healhalves.lookers import lets_paper
from healhalves.papers import paper_on
from tests.helping import (
    NO_NUMBERS, NO_SIZES, SIZES, Agreeable, FairCase, all_rows, changed_forms, changed_lists, is_paper, losses_for,
    no_losses, no_places, single, toggled,
)

NO_PAPERS = NO_NUMBERS + [0, 1, "told", "open", ("told",), ("open",), ("told", [0]), ("open", [0, 1], [])] + [
    (None, [0], []), (1, [0], []), ("Told", [0], []), ("told ", [0], []), (["told"], [0], []), (("told",), [0], []),
    (b"told", [0], []), (Agreeable(), [0], []), (Agreeable(), [0, 1]), ("told", None, None), ("open", None),
    ("told", [1], [], None), {"told": [1]}, [("told", [1], [])], (("told", [1], []),), ("", [1], []), ((), (), ()),
    ("told", {}, {}), ("told", "", ""), ("told", 1, 0), ("open", 1), ("open", {}), ("open", "01"), ("open", [[0, 1]]),
]


def some_of(numbers):
    for row in itertools.product([False, True], repeat=len(numbers)):
        yield [number for number, taken in zip(numbers, row) if taken]


def changed_papers(size, paper):
    words = ("told", "open", "row", "fits", "", None, 1, "TOLD", ("told",), ["open"], Agreeable())
    kinds = changed_forms(paper, words)
    for part in range(1, len(paper)):
        for row in changed_lists(paper[part]):
            kinds.append(paper[:part] + (row,) + paper[part + 1:])
    numbers = range(2 ** size)
    if paper[0] == "told":
        kinds += [("told", toggled(paper[1], number), paper[2]) for number in numbers]
        kinds += [("told", paper[1], toggled(paper[2], number)) for number in numbers]
        kinds += [("told", toggled(paper[1], 0), toggled(paper[2], number)) for number in numbers]
        kinds += [("told", paper[2], paper[1]), ("open", paper[1])]
    else:
        kinds += [("open", [1 - sign if k == number else sign for k, sign in enumerate(paper[1])]) for number in numbers]
        kinds += [("told", paper[1], []), ("told", [k for k in numbers if paper[1][k]], [])]
    return kinds


class LetsPaperTest(FairCase):
    def test_by_hand(self):
        self.assertIs(lets_paper(1, [], 0, ("told", [0, 1], [])), True)
        self.assertIs(lets_paper(1, [], 1, ("told", [1], [])), True)
        self.assertIs(lets_paper(1, [], 1, ("told", [0], [0])), True)
        self.assertIs(lets_paper(1, [], 1, ("told", [0], [])), False)
        self.assertIs(lets_paper(1, [1], 1, ("told", [1], [])), False)
        self.assertIs(lets_paper(1, [1], 1, ("told", [0], [0])), True)
        self.assertIs(lets_paper(1, [1], 0, ("open", [1, 1])), True)
        self.assertIs(lets_paper(1, [1], 0, ("open", [1, 0])), False)
        self.assertIs(lets_paper(1, [0], 0, ("open", [1, 0])), True)
        self.assertIs(lets_paper(1, [0, 1], 1, ("open", [0, 1])), True)
        self.assertIs(lets_paper(1, [0, 1], 1, ("open", [1, 1])), False)
        self.assertIs(lets_paper(1, [0, 1], 1, ("open", [0, 0])), False)

    def test_all_papers_of_small_sizes(self):
        """Each place has papers of just one kind, whoever wrote them."""
        for size in (1, 2):
            numbers = list(range(2 ** size))
            told = [("told", spots, places) for spots in some_of(numbers) for places in some_of(numbers)]
            unsure = [("open", core) for core in all_rows(2 ** size)]
            for loss in losses_for(size):
                for place in numbers:
                    words = set()
                    for paper in told + unsure:
                        wanted = is_paper(size, loss, place, paper)
                        self.assertIs(lets_paper(size, loss, place, paper), wanted, (loss, place, paper))
                        if wanted:
                            words.add(paper[0])
                    self.assertEqual(len(words), 1)

    def test_drawn_rows_of_size_three(self):
        """With every row of kept spots asked by some places that make it sum to one place, where there are any."""
        draw = random.Random("rows")
        numbers = list(range(8))
        for _ in range(3000):
            loss = [spot for spot in numbers if draw.randrange(3) == 0]
            place = draw.randrange(8)
            spots = [spot for spot in numbers if spot not in loss and draw.randrange(2)]
            reached = [k for k in numbers if sum((k & spot) == spot for spot in spots) % 2]
            paper = ("told", spots, [k for k in reached if k != place])
            self.assertIs(lets_paper(3, loss, place, paper), is_paper(3, loss, place, paper))

    def test_all_cores_of_size_three(self):
        draw = random.Random("losses")
        for loss in [[], list(range(8))] + draw.sample(losses_for(3), 20):
            for place in range(8):
                for core in all_rows(8):
                    paper = ("open", core)
                    self.assertIs(lets_paper(3, loss, place, paper), is_paper(3, loss, place, paper))

    def test_changed_papers_are_let_by_just_where_they_still_hold(self):
        draw = random.Random("changed")
        for size in SIZES:
            losses = losses_for(size)
            losses = losses if size <= 2 else [[], list(range(2 ** size))] + draw.sample(losses, 10)
            for loss in losses:
                places = range(2 ** size)
                for place in places if size <= 3 else draw.sample(places, 3):
                    for paper in changed_papers(size, paper_on(size, loss, place)):
                        wanted = is_paper(size, loss, place, paper)
                        self.assertIs(lets_paper(size, loss, place, paper), wanted, (size, loss, place, paper))

    def test_a_paper_on_one_place_or_loss_is_none_on_others_unless_it_holds_there(self):
        for size in (1, 2):
            papers = [paper_on(size, loss, place) for loss in losses_for(size) for place in range(2 ** size)]
            for loss in losses_for(size):
                for place in range(2 ** size):
                    for paper in papers:
                        wanted = is_paper(size, loss, place, paper)
                        self.assertIs(lets_paper(size, loss, place, paper), wanted)

    def test_papers_of_another_size(self):
        self.assertIs(lets_paper(2, [0, 1, 2, 3], 0, ("open", [1, 0])), False)
        self.assertIs(lets_paper(1, [0, 1], 0, ("open", [1, 0, 0, 0])), False)
        self.assertIs(lets_paper(1, [], 1, ("told", [3], [])), False)
        self.assertIs(lets_paper(2, [], 3, ("told", [3], [])), True)

    def test_truths_are_no_numbers_in_papers(self):
        self.assertIs(lets_paper(1, [], 1, ("told", [True], [])), False)
        self.assertIs(lets_paper(1, [1], 1, ("told", [False], [0])), False)
        self.assertIs(lets_paper(1, [1], 1, ("told", [0], [False])), False)
        self.assertIs(lets_paper(1, [0, 1], 0, ("open", [True, 0])), False)
        self.assertIs(lets_paper(1, [0, 1], 0, ("open", [1, False])), False)

    def test_anything_is_answered_and_nothing_is_changed(self):
        for size in SIZES:
            for loss in ([], [0], list(range(2 ** size))):
                for place in (0, 2 ** size - 1):
                    for paper in NO_PAPERS:
                        self.assertIs(self.fair(lets_paper, size, loss, place, paper), False, paper)
                    for paper in (("told", [2 ** size - 1], []), ("open", single(2 ** size, place))):
                        wanted = is_paper(size, loss, place, paper)
                        self.assertIs(self.fair(lets_paper, size, loss, place, paper), wanted)


class RefusalsTest(FairCase):
    def test_no_size_goes_first(self):
        for size in NO_SIZES:
            for loss, place in (([], 0), (None, 0), ([], None), (None, None)):
                self.assertRefused(NoSize, lets_paper, size, loss, place, ("told", [0], []))
                self.assertRefused(NoSize, lets_paper, size, loss, place, None)

    def test_no_loss_goes_ahead_of_no_place(self):
        for size in SIZES:
            for loss in no_losses(size):
                for place in (0, None, -1, True, 2 ** size):
                    self.assertRefused(NoLoss, lets_paper, size, loss, place, ("told", [0], []))
                    self.assertRefused(NoLoss, lets_paper, size, loss, place, None)

    def test_no_place(self):
        for size in SIZES:
            for place in no_places(size):
                self.assertRefused(NoPlace, lets_paper, size, [], place, ("told", [0], []))
                self.assertRefused(NoPlace, lets_paper, size, [0], place, None)


if __name__ == "__main__":
    unittest.main()
