import random
import unittest

from healhalves.errors import NoCore, NoNet, NoSize
from healhalves.nets import halving_net, is_net, run, turned_net
from healhalves.words import word_of
from tests.helping import NO_NUMBERS, NO_SIZES, SIZES, FairCase, cores_for, drawn_net, no_nets, single


def drawn_nets(size):
    draw = random.Random(f"nets {size}")
    return [drawn_net(draw, size, rounds) for rounds in (0, 1, 1, 2, 3, 5, 8, 39, 40)]


def good_nets(size):
    nets = [[], [[]], [[]] * 40, [[(0, 1)]], [[(1, 0)]], [[(0, 1)]] * 40, [[], [(0, 1)], []], halving_net(size)]
    return nets + [[[(2 ** size - 1, 0)], [(0, 2 ** size - 1)]]] + drawn_nets(size)


class IsNetTest(FairCase):
    def test_good_nets(self):
        for size in SIZES:
            for net in good_nets(size):
                self.assertIs(self.fair(is_net, size, net), True, net)

    def test_a_spot_may_stand_in_several_rounds(self):
        self.assertIs(is_net(1, [[(0, 1)], [(1, 0)], [(0, 1)]]), True)

    def test_none_to_forty_rounds(self):
        for rounds in range(0, 41):
            self.assertIs(is_net(2, [[(0, 1)] for _ in range(rounds)]), True)
            self.assertIs(is_net(2, [[] for _ in range(rounds)]), True)
        self.assertIs(is_net(2, [[] for _ in range(41)]), False)
        self.assertIs(is_net(2, [[(0, 1)] for _ in range(41)]), False)

    def test_what_is_no_net(self):
        for size in SIZES:
            for thing in no_nets(size):
                self.assertIs(is_net(size, thing), False, thing)

    def test_a_net_of_a_greater_size_is_none_of_a_lesser(self):
        for size in SIZES[1:]:
            self.assertIs(is_net(size - 1, halving_net(size)), False)
            self.assertIs(is_net(size, halving_net(size - 1)), True)

    def test_no_size_whatever_the_thing_is(self):
        for size in NO_SIZES:
            for thing in [[], [[(0, 1)]], [[(0, 0)]], None, "net", (), 3, True]:
                self.assertRefused(NoSize, is_net, size, thing)


class RunTest(FairCase):
    def test_by_hand(self):
        self.assertSame(run(1, [[(0, 1)]], [0, 1]), [1, 1])
        self.assertSame(run(1, [[(1, 0)]], [0, 1]), [0, 1])
        self.assertSame(run(1, [[(0, 1)], [(1, 0)]], [0, 1]), [1, 0])
        self.assertSame(run(2, [[(0, 1), (2, 3)], [(1, 3)]], [1, 1, 0, 1]), [0, 0, 1, 1])

    def test_the_net_of_no_rounds_leaves_the_row(self):
        for size in SIZES:
            for row in cores_for(size)[:40]:
                self.assertSame(self.fair(run, size, [], row), row)
                self.assertSame(self.fair(run, size, [[], []], row), row)

    def test_step_by_step_round_by_round(self):
        for size in SIZES:
            for net in good_nets(size):
                for row in cores_for(size)[-20:]:
                    wanted = list(row)
                    for steps in net:
                        for into, other in steps:
                            wanted[into] = (wanted[into] + wanted[other]) % 2
                    self.assertSame(self.fair(run, size, net, row), wanted)

    def test_no_size(self):
        for size in NO_SIZES:
            self.assertRefused(NoSize, run, size, [], [0, 1])
            self.assertRefused(NoSize, run, size, None, [0, 1])
            self.assertRefused(NoSize, run, size, [], None)
            self.assertRefused(NoSize, run, size, None, None)

    def test_no_net_goes_ahead_of_no_core(self):
        for size in SIZES:
            for net in no_nets(size):
                self.assertRefused(NoNet, run, size, net, single(2 ** size, 0))
                self.assertRefused(NoNet, run, size, net, None)

    def test_no_core(self):
        for size in SIZES:
            row = [0] * 2 ** size
            things = NO_NUMBERS + [0, 1, tuple(row), "0" * 2 ** size, row[1:], row + [0], row + row, row[: len(row) // 2]]
            things += [row[1:] + [thing] for thing in NO_NUMBERS + [2, -1]]
            for thing in things:
                self.assertRefused(NoCore, run, size, [], thing)
                self.assertRefused(NoCore, run, size, halving_net(size), thing)


class TurnedNetTest(FairCase):
    def test_rounds_from_the_last_to_the_first(self):
        net = [[(0, 1), (2, 3)], [], [(1, 3)]]
        self.assertSame(self.fair(turned_net, 2, net), [[(1, 3)], [], [(0, 1), (2, 3)]])
        self.assertSame(self.fair(turned_net, 1, []), [])

    def test_it_has_the_same_steps_round_by_round(self):
        for size in SIZES:
            for net in good_nets(size):
                told = self.fair(turned_net, size, net)
                self.assertIs(is_net(size, told), True)
                self.assertEqual([sorted(steps) for steps in told], [sorted(steps) for steps in net[::-1]])

    def test_one_round_at_two_places_is_told_as_two_lists(self):
        steps = [(0, 1)]
        self.assertSame(self.fair(turned_net, 1, [steps, steps]), [[(0, 1)], [(0, 1)]])

    def test_it_leads_back(self):
        for size in SIZES:
            for net in good_nets(size):
                for row in cores_for(size)[-20:]:
                    self.assertSame(run(size, turned_net(size, net), run(size, net, row)), row)
                    self.assertSame(run(size, net, run(size, turned_net(size, net), row)), row)

    def test_refusals(self):
        for size in NO_SIZES:
            self.assertRefused(NoSize, turned_net, size, [])
            self.assertRefused(NoSize, turned_net, size, None)
        for size in SIZES:
            for net in no_nets(size):
                self.assertRefused(NoNet, turned_net, size, net)


class HalvingNetTest(FairCase):
    def test_by_hand(self):
        self.assertSame(self.fair(halving_net, 1), [[(0, 1)]])
        self.assertSame(self.fair(halving_net, 2), [[(0, 1), (2, 3)], [(0, 2), (1, 3)]])
        self.assertSame(
            self.fair(halving_net, 3),
            [[(0, 1), (2, 3), (4, 5), (6, 7)], [(0, 2), (1, 3), (4, 6), (5, 7)], [(0, 4), (1, 5), (2, 6), (3, 7)]],
        )

    def test_its_form(self):
        for size in SIZES:
            net = self.fair(halving_net, size)
            self.assertIs(is_net(size, net), True)
            self.assertEqual(len(net), size)
            for number, steps in enumerate(net):
                wanted = [spot for spot in range(2 ** size) if spot // 2 ** number % 2 == 0]
                self.assertSame(steps, [(spot, spot + 2 ** number) for spot in wanted])

    def test_it_makes_words(self):
        for size in SIZES:
            for core in cores_for(size):
                self.assertSame(run(size, halving_net(size), core), word_of(core))

    def test_no_size(self):
        for size in NO_SIZES:
            self.assertRefused(NoSize, halving_net, size)


if __name__ == "__main__":
    unittest.main()
