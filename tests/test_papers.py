import unittest

from healhalves.errors import NoLoss, NoPlace, NoSize
from healhalves.lookers import lets_paper
from healhalves.losses import places_lost
from healhalves.papers import paper_on
from tests.helping import NO_SIZES, SIZES, FairCase, is_paper, losses_for, no_losses, no_places


class PaperOnTest(FairCase):
    def test_where_there_is_but_one(self):
        self.assertSame(self.fair(paper_on, 1, [], 0), ("told", [0, 1], []))
        self.assertSame(self.fair(paper_on, 1, [0], 1), ("told", [1], []))
        self.assertSame(self.fair(paper_on, 1, [1], 1), ("told", [0], [0]))
        self.assertSame(self.fair(paper_on, 1, [1], 0), ("open", [1, 1]))
        self.assertSame(self.fair(paper_on, 1, [0], 0), ("open", [1, 0]))
        self.assertSame(self.fair(paper_on, 1, [0, 1], 1), ("open", [0, 1]))

    def test_it_is_of_the_right_kind_and_holds(self):
        for size in SIZES:
            for loss in losses_for(size):
                lost = places_lost(size, loss)
                for place in range(2 ** size):
                    paper = paper_on(size, loss, place)
                    self.assertEqual(paper[0], "open" if place in lost else "told")
                    self.assertTrue(is_paper(size, loss, place, paper), (size, loss, place, paper))
                    self.assertIs(lets_paper(size, loss, place, paper), True)

    def test_nothing_is_changed_or_kept(self):
        for size in SIZES:
            for loss in losses_for(size)[-20:]:
                for place in range(2 ** size):
                    paper = self.fair(paper_on, size, loss, place)
                    self.assertIs(self.fair(lets_paper, size, loss, place, paper), True)

    def test_no_size_goes_first(self):
        for size in NO_SIZES:
            for loss, place in (([], 0), (None, 0), ([], None), (None, None)):
                self.assertRefused(NoSize, paper_on, size, loss, place)

    def test_no_loss_goes_ahead_of_no_place(self):
        for size in SIZES:
            for loss in no_losses(size):
                for place in (0, None, -1, True, 2 ** size):
                    self.assertRefused(NoLoss, paper_on, size, loss, place)

    def test_no_place(self):
        for size in SIZES:
            for place in no_places(size):
                self.assertRefused(NoPlace, paper_on, size, [], place)
                self.assertRefused(NoPlace, paper_on, size, [0], place)


if __name__ == "__main__":
    unittest.main()
