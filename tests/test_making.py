import itertools
import random
import unittest

from healhalves.errors import NoNet, NoSize
from healhalves.making import makes_words, unlike_core
from healhalves.nets import halving_net, is_net, run, turned_net
from healhalves.words import word_of
from tests.helping import NO_SIZES, SIZES, FairCase, all_rows, drawn_net, no_nets, reaches_by_figures


def makes_by_parts(size, net):
    """By the set of places whose signs each spot's sign is the sum of."""
    parts = [{spot} for spot in range(2 ** size)]
    for steps in net:
        for into, other in steps:
            parts[into] = parts[into] ^ parts[other]
    wanted = [
        {place for place in range(2 ** size) if reaches_by_figures(size, place, spot)} for spot in range(2 ** size)
    ]
    return parts == wanted


def parted(net):
    """Each round of more than one step as two rounds."""
    rounds = []
    for steps in net:
        rounds += [steps[::2], steps[1::2]]
    return rounds


def with_step_out(net, number, step):
    return [[one for one in steps if (k, one) != (number, step)] for k, steps in enumerate(net)]


def with_step_exchanged(net, number, step):
    return [[one[::-1] if (k, one) == (number, step) else one for one in steps] for k, steps in enumerate(net)]


class MakingTest(FairCase):
    def assertMakes(self, size, net, wanted):
        self.assertTrue(is_net(size, net))
        self.assertIs(self.fair(makes_words, size, net), wanted, net)
        core = self.fair(unlike_core, size, net)
        if wanted:
            self.assertIsNone(core)
        else:
            self.assertNotEqual(repr(run(size, net, core)), repr(word_of(core)))
            self.assertEqual(len(core), 2 ** size)

    def test_the_halving_net(self):
        for size in SIZES:
            self.assertMakes(size, halving_net(size), True)

    def test_its_rounds_in_another_order(self):
        for size in SIZES:
            for net in itertools.permutations(halving_net(size)):
                self.assertMakes(size, list(net), True)

    def test_its_rounds_parted(self):
        for size in SIZES:
            self.assertMakes(size, parted(halving_net(size)), True)
            self.assertMakes(size, parted(parted(halving_net(size))), True)
            self.assertMakes(size, [[]] + halving_net(size) + [[], []], True)
            self.assertMakes(size, [steps[::-1] for steps in halving_net(size)], True)

    def test_a_round_put_in_twice(self):
        for size in SIZES:
            net = halving_net(size)
            for number in range(size):
                self.assertMakes(size, net[:number] + [net[number]] + net[number:], False)
                self.assertMakes(size, net + [net[number]], False)
                self.assertMakes(size, net + [net[number], net[number]], True)

    def test_a_round_taken_out(self):
        for size in SIZES:
            net = halving_net(size)
            for number in range(size):
                self.assertMakes(size, net[:number] + net[number + 1:], False)

    def test_a_step_taken_out(self):
        for size in SIZES:
            net = halving_net(size)
            for number, steps in enumerate(net):
                for step in steps:
                    self.assertMakes(size, with_step_out(net, number, step), False)

    def test_its_spots_exchanged(self):
        for size in SIZES:
            net = halving_net(size)
            self.assertMakes(size, [[step[::-1] for step in steps] for steps in net], False)
            for number, steps in enumerate(net):
                for step in steps:
                    self.assertMakes(size, with_step_exchanged(net, number, step), False)

    def test_the_net_of_no_rounds(self):
        for size in SIZES:
            self.assertMakes(size, [], False)
            self.assertMakes(size, [[]] * 40, False)

    def test_a_net_of_a_lesser_size(self):
        for size in SIZES[1:]:
            self.assertMakes(size, halving_net(size - 1), False)

    def test_drawn_nets(self):
        draw = random.Random("making")
        for size in SIZES:
            for rounds in list(range(8)) * 4:
                net = drawn_net(draw, size, rounds)
                self.assertMakes(size, net, makes_by_parts(size, net))
                self.assertMakes(size, net + turned_net(size, net) + halving_net(size), True)
                self.assertMakes(size, halving_net(size) + net + turned_net(size, net), True)

    def test_on_every_core_of_small_sizes(self):
        steps = [[(0, 1)], [(1, 0)], []]
        for many in range(6):
            for net in itertools.product(steps, repeat=many):
                wanted = all(run(1, list(net), core) == word_of(core) for core in all_rows(2))
                self.assertMakes(1, list(net), wanted)
        draw = random.Random("small")
        for size in (2, 3):
            for rounds in list(range(6)) * 3:
                net = drawn_net(draw, size, rounds)
                wanted = all(run(size, net, core) == word_of(core) for core in all_rows(2 ** size))
                self.assertMakes(size, net, wanted)

    def test_refusals(self):
        for call in (makes_words, unlike_core):
            for size in NO_SIZES:
                self.assertRefused(NoSize, call, size, [])
                self.assertRefused(NoSize, call, size, None)
            for size in SIZES:
                for net in no_nets(size):
                    self.assertRefused(NoNet, call, size, net)


if __name__ == "__main__":
    unittest.main()
