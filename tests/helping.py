"""What the tests share: odd things, references that go through everything, and a case that asks for fairness."""

import itertools
import random
import unittest
from copy import deepcopy

SIZES = (1, 2, 3, 4, 5)


class Agreeable:
    """Says that it equals everything, so that no answer may rest on == alone."""

    def __eq__(self, other):
        return True

    def __hash__(self):
        return 1


# Of no kind that the program speaks of, wherever they are handed in as a number.
NO_NUMBERS = [True, False, None, "", "0", "1", "a", b"1", [], [0], [1], (), (1,), {}, {1: 1}, object(), Agreeable(), int]
NO_SIZES = NO_NUMBERS + [0, -1, -5, 6, 7, 32, 10 ** 59, -(10 ** 59)]


def no_places(size):
    return NO_NUMBERS + [-1, -2, 2 ** size, 2 ** size + 1, 10 ** 59, -(10 ** 59)]


def all_rows(length):
    return [list(row) for row in itertools.product([0, 1], repeat=length)]


def single(length, number):
    return [1 if other == number else 0 for other in range(length)]


def cores_for(size, many=30):
    """All cores of a small size; of a greater one those of none, all and one 1, and some drawn ones."""
    length = 2 ** size
    if size <= 3:
        return all_rows(length)
    draw = random.Random(f"cores {size}")
    drawn = [[draw.randrange(2) for _ in range(length)] for _ in range(many)]
    return [[0] * length, [1] * length] + [single(length, place) for place in range(length)] + drawn


def figures(size, number):
    return format(number, f"0{size}b")


def reaches_by_figures(size, place, spot):
    return all(lower <= upper for lower, upper in zip(figures(size, spot), figures(size, place)))


def word_by_reach(size, core):
    """The word as the sum, at each spot, over all places that reach it."""
    length = 2 ** size
    return [
        sum(core[place] for place in range(length) if reaches_by_figures(size, place, spot)) % 2
        for spot in range(length)
    ]


def lists_within(thing):
    found = [thing] if isinstance(thing, list) else []
    if isinstance(thing, (list, tuple)):
        for part in thing:
            found.extend(lists_within(part))
    return found


class FairCase(unittest.TestCase):
    def assertSame(self, one, other):
        """Alike in kind too: 1 and True are equal, but not the same answer."""
        self.assertEqual(repr(one), repr(other))

    def assertRefused(self, refusal, call, *handed):
        before = repr(handed)
        with self.assertRaises(refusal) as caught:
            call(*handed)
        self.assertIs(type(caught.exception), refusal, handed)
        self.assertEqual(repr(handed), before)

    def fair(self, call, *handed):
        """What is told, once it is sure that nothing handed in is changed or kept and every told list is a new one."""
        before = repr(handed)
        told = call(*handed)
        wanted = repr(told)
        lists = lists_within(told)
        self.assertEqual(len(lists), len({id(one) for one in lists}), "one list is told at two places")
        self.assertFalse({id(one) for one in lists} & {id(one) for one in lists_within(handed)}, "a handed list is told")
        for one in lists:
            one.append("spoilt")
            one.reverse()
        self.assertEqual(repr(handed), before)
        again = call(*handed)
        self.assertEqual(repr(again), wanted)
        changed = deepcopy(handed)
        told = call(*changed)
        for one in lists_within(changed):
            one.append("spoilt")
            one.reverse()
        self.assertEqual(repr(told), wanted)
        self.assertEqual(repr(call(*handed)), wanted)
        return again
