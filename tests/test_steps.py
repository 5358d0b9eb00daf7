import itertools
import random
import unittest

from healhalves.counts import counts_of
from healhalves.errors import NoLoss, NoPlace, NoSize, NoTurn
from healhalves.losses import places_lost
from healhalves.steps import is_step, turn_of, turned_loss
from tests.helping import (
    NO_NUMBERS, NO_SIZES, SIZES, FairCase, losses_for, no_losses, no_places, turn_by_figures,
)


def all_pairs(size):
    return itertools.product(range(2 ** size), repeat=2)


def some_turns(size):
    """Turns of steps, and other orders of all spots."""
    spots = list(range(2 ** size))
    turns = [turn_by_figures(size, one, other) for one, other in all_pairs(size)]
    turns = [list(turn) for turn in sorted({tuple(turn) for turn in turns if turn is not None})]
    draw = random.Random(f"turns {size}")
    return turns + [spots[::-1], spots[1:] + spots[:1]] + [draw.sample(spots, len(spots)) for _ in range(6)]


def no_turns(size):
    spots = list(range(2 ** size))
    last = 2 ** size - 1
    things = NO_NUMBERS + [0, 1, tuple(spots), "01", {spot: spot for spot in spots}, set(spots), range(2 ** size)]
    things += [spots[1:], spots[:-1], spots + [0], spots + [last], spots + [last + 1], spots + spots, [spots]]
    things += [[0] * 2 ** size, [last] * 2 ** size, spots[:-1] + [0], [last] + spots[1:], spots[1:] + [last + 1]]
    things += [list(range(2 ** (size + 1))), list(range(2 ** (size - 1))), [[spot] for spot in spots]]
    for thing in no_places(size):
        things += [[thing] + spots[1:], spots[:-1] + [thing], spots + [thing], [thing] + spots]
    return [thing for thing in things if repr(thing) not in (repr(spots), repr(spots[::-1]))]


class StepTest(FairCase):
    def test_by_hand(self):
        self.assertSame(self.fair(turn_of, 2, 0, 1), [0, 1, 2, 3])
        self.assertSame(self.fair(turn_of, 2, 0, 2), [0, 1, 2, 3])
        self.assertSame(self.fair(turn_of, 2, 1, 2), [0, 2, 1, 3])
        self.assertSame(self.fair(turn_of, 2, 2, 1), None)
        self.assertSame(self.fair(turn_of, 2, 0, 3), None)
        self.assertSame(self.fair(turn_of, 2, 1, 1), None)
        self.assertSame(self.fair(turn_of, 2, 1, 0), None)
        self.assertSame(self.fair(turn_of, 3, 1, 4), None)
        self.assertSame(self.fair(turn_of, 3, 2, 4), [0, 1, 4, 5, 2, 3, 6, 7])
        self.assertSame(self.fair(turn_of, 3, 3, 5), [0, 1, 4, 5, 2, 3, 6, 7])
        self.assertSame(self.fair(turn_of, 3, 5, 6), [0, 2, 1, 3, 4, 6, 5, 7])
        self.assertIs(is_step(3, 3, 4), False)
        self.assertIs(is_step(3, 3, 7), True)

    def test_all_pairs_of_places(self):
        for size in SIZES:
            for one, other in all_pairs(size):
                wanted = turn_by_figures(size, one, other)
                self.assertSame(turn_of(size, one, other), wanted)
                self.assertIs(is_step(size, one, other), wanted is not None)

    def test_nothing_is_kept(self):
        for size in SIZES:
            for one, other in all_pairs(min(size, 3)):
                self.fair(turn_of, size, one, other)
                self.fair(is_step, size, one, other)

    def test_no_size_goes_first(self):
        for call in (is_step, turn_of):
            for size in NO_SIZES:
                for one, other in ((0, 1), (None, 1), (0, None), (-1, 99), (True, True)):
                    self.assertRefused(NoSize, call, size, one, other)

    def test_no_place(self):
        for call in (is_step, turn_of):
            for size in SIZES:
                for thing in no_places(size):
                    for other in (0, 1, thing):
                        self.assertRefused(NoPlace, call, size, thing, other)
                        self.assertRefused(NoPlace, call, size, other, thing)


class TurnedLossTest(FairCase):
    def test_by_hand(self):
        self.assertSame(self.fair(turned_loss, 2, [0, 2, 1, 3], [1]), [2])
        self.assertSame(self.fair(turned_loss, 2, [0, 2, 1, 3], [1, 3]), [2, 3])
        self.assertSame(self.fair(turned_loss, 2, [1, 2, 3, 0], [0, 3]), [0, 1])
        self.assertSame(self.fair(turned_loss, 2, [3, 0, 2, 1], [1, 2, 3]), [0, 1, 2])
        self.assertSame(self.fair(turned_loss, 1, [1, 0], []), [])

    def test_turns_of_steps_and_any_order(self):
        for size in SIZES:
            losses = losses_for(size)
            for turn in some_turns(size):
                for loss in losses if size <= 3 else losses[:2] + losses[-10:]:
                    wanted = [spot for spot in range(2 ** size) if turn.index(spot) in loss]
                    self.assertSame(turned_loss(size, turn, loss), wanted)

    def test_nothing_is_changed(self):
        for size in SIZES:
            for turn in some_turns(size):
                for loss in losses_for(size)[-3:]:
                    self.fair(turned_loss, size, turn, loss)

    def test_all_spots_and_none(self):
        for size in SIZES:
            spots = list(range(2 ** size))
            for turn in some_turns(size):
                self.assertSame(turned_loss(size, turn, spots), spots)
                self.assertSame(turned_loss(size, turn, []), [])

    def test_what_loses_the_better_place_of_a_step_loses_turned_the_worse_one(self):
        for size in SIZES:
            losses = losses_for(size)
            for one, other in all_pairs(size):
                turn = turn_of(size, one, other)
                if turn is None:
                    continue
                for loss in losses if size <= 3 else losses[-15:]:
                    if other in places_lost(size, loss):
                        self.assertIn(one, places_lost(size, turned_loss(size, turn, loss)))

    def test_a_step_up_makes_no_count_greater(self):
        for size in SIZES:
            counts = [counts_of(size, place) for place in range(2 ** size)]
            for one, other in all_pairs(size):
                if is_step(size, one, other):
                    self.assertTrue(all(upper <= lower for upper, lower in zip(counts[other], counts[one])))

    def test_no_size_goes_first(self):
        for size in NO_SIZES:
            for turn, loss in (([0, 1], []), (None, []), ([0, 1], None), (None, None)):
                self.assertRefused(NoSize, turned_loss, size, turn, loss)

    def test_no_turn_goes_ahead_of_no_loss(self):
        for size in SIZES:
            for turn in no_turns(size):
                for loss in ([], [0], None, [1, 0], [2 ** size]):
                    self.assertRefused(NoTurn, turned_loss, size, turn, loss)

    def test_no_loss(self):
        for size in SIZES:
            for turn in some_turns(size)[-3:]:
                for loss in no_losses(size):
                    self.assertRefused(NoLoss, turned_loss, size, turn, loss)


if __name__ == "__main__":
    unittest.main()
