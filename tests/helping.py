"""What the tests share: odd things, references that go through everything, and a case that asks for fairness."""

import itertools
import random
import unittest
from copy import deepcopy

SIZES = (1, 2, 3, 4, 5)


class Agreeable:
    """Says that it equals everything, so that no answer may rest on == alone."""

    def __eq__(self, other):
        return True

    def __hash__(self):
        return 1


# Of no kind that the program speaks of, wherever they are handed in as a number.
NO_NUMBERS = [True, False, None, "", "0", "1", "a", b"1", [], [0], [1], (), (1,), {}, {1: 1}, object(), Agreeable(), int]
NO_SIZES = NO_NUMBERS + [0, -1, -5, 6, 7, 32, 10 ** 59, -(10 ** 59)]


def no_places(size):
    return NO_NUMBERS + [-1, -2, 2 ** size, 2 ** size + 1, 10 ** 59, -(10 ** 59)]


def all_rows(length):
    return [list(row) for row in itertools.product([0, 1], repeat=length)]


def single(length, number):
    return [1 if other == number else 0 for other in range(length)]


def cores_for(size, many=30):
    """All cores of a small size; of a greater one those of none, all and one 1, and some drawn ones."""
    length = 2 ** size
    if size <= 3:
        return all_rows(length)
    draw = random.Random(f"cores {size}")
    drawn = [[draw.randrange(2) for _ in range(length)] for _ in range(many)]
    return [[0] * length, [1] * length] + [single(length, place) for place in range(length)] + drawn


def figures(size, number):
    return format(number, f"0{size}b")


def reaches_by_figures(size, place, spot):
    return all(lower <= upper for lower, upper in zip(figures(size, spot), figures(size, place)))


def word_by_reach(size, core):
    """The word as the sum, at each spot, over all places that reach it."""
    length = 2 ** size
    return [
        sum(core[place] for place in range(length) if reaches_by_figures(size, place, spot)) % 2
        for spot in range(length)
    ]


def drawn_net(draw, size, rounds):
    net = []
    for _ in range(rounds):
        spots = list(range(2 ** size))
        draw.shuffle(spots)
        pairs = draw.randrange(len(spots) // 2 + 1)
        net.append([(spots[2 * k], spots[2 * k + 1]) for k in range(pairs)])
    return net


def no_nets(size):
    last = 2 ** size - 1
    things = NO_NUMBERS[:8] + [(), (1,), {}, {1: 1}, object(), 0, 1]
    things = [thing for thing in things if thing != []]
    things += [[[]] * 41, [[(0, 1)]] * 41, [[]] * 1000]
    things += [([(0, 1)],), [((0, 1),)], [[[0, 1]]], [(0, 1)], ((0, 1),), [[()]], [[(0,)]], [[(0, 1, 0)]]]
    things += [[[(0, 0)]], [[(last, last)]], [[(0, 1), (0, 1)]], [[(0, 1), (1, 0)]]]
    things += [[[], [(0, 1)], [(0, 1), (0, 1)]], [None], [[None]], ["01"], [["01"]], [[0, 1]], [0], [{}], [{(0, 1): 1}]]
    for thing in no_places(size):
        things += [[[(thing, 0)]], [[(0, thing)]], [[(0, 1)], [(thing, 1)]]]
    if size > 1:
        things += [[[(0, 1), (1, 2)]], [[(0, 1), (2, 0)]], [[(0, 1), (2, 1)]], [[(0, 1), (2, 3), (last, 0)]]]
        things += [[[(0, 1), (2, 3), (2, 3)]], [[(0, 1), (2, 2)]], [[(0, 1), [2, 3]]], [[(0, 1), None]]]
    return things


def losses_for(size, many=40):
    """All losses of a small size; of a greater one those of none, all, one and all but one spot, and drawn ones."""
    spots = range(2 ** size)
    if size <= 3:
        return [[spot for spot in spots if row[spot]] for row in all_rows(2 ** size)]
    draw = random.Random(f"losses {size}")
    drawn = [sorted(draw.sample(spots, draw.randrange(2 ** size + 1))) for _ in range(many)]
    ones = [[spot] for spot in spots] + [[other for other in spots if other != spot] for spot in spots]
    return [[], list(spots)] + ones + drawn


def no_losses(size):
    last = 2 ** size - 1
    things = [thing for thing in NO_NUMBERS if isinstance(thing, Agreeable) or thing not in ([], [0], [1])]
    things += [0, 1, (0,), tuple(range(2 ** size)), "0", "01", {0: 0}, {0}, range(1)]
    things += [[0, 0], [last, last], [1, 0], [last, 0], [0, last, 0], list(range(2 ** size)) + [last], [[0]], [(0,)]]
    for thing in no_places(size):
        things += [[thing], [0, thing], [thing, last]]
    return things


def can_be_told(size, loss, place):
    """By going through all cores: no two that part at the place agree in all that is known."""
    known = {}
    for core in all_rows(2 ** size):
        word = WORDS[tuple(core)]
        seen = (tuple(core[:place]), tuple(sign for spot, sign in enumerate(word) if spot not in loss))
        if known.setdefault(seen, core[place]) != core[place]:
            return False
    return True


def is_paper(size, loss, place, paper):
    """A paper on a place as the document has it, held against all cores of a small size, and enough of a greater."""
    if type(paper) is not tuple or not paper or type(paper[0]) is not str:
        return False
    kept = [spot for spot in range(2 ** size) if spot not in loss]
    if paper[0] == "told" and len(paper) == 3:
        return is_some_of(paper[1], kept) and is_some_of(paper[2], list(range(place))) and all(
            (sum(WORDS[core][spot] for spot in paper[1]) + sum(core[ahead] for ahead in paper[2])) % 2 == core[place]
            for core in CORES[size]
        )
    if paper[0] == "open" and len(paper) == 2:
        core = paper[1]
        if type(core) is not list or len(core) != 2 ** size or any(repr(sign) not in ("0", "1") for sign in core):
            return False
        word = word_by_reach(size, core)
        return sum(core[:place]) == 0 and core[place] == 1 and all(word[spot] == 0 for spot in kept)
    return False


def is_some_of(thing, numbers):
    if type(thing) is not list or any(type(number) is not int for number in thing):
        return False
    return thing == [number for number in numbers if number in thing]


CORES = {size: [tuple(core) for core in cores_for(size)] for size in SIZES}
WORDS = {core: word_by_reach(size, core) for size in SIZES for core in CORES[size]}


def lists_within(thing):
    found = [thing] if isinstance(thing, list) else []
    if isinstance(thing, (list, tuple)):
        for part in thing:
            found.extend(lists_within(part))
    return found


class FairCase(unittest.TestCase):
    def assertSame(self, one, other):
        """Alike in kind too: 1 and True are equal, but not the same answer."""
        self.assertEqual(repr(one), repr(other))

    def assertRefused(self, refusal, call, *handed):
        before = repr(handed)
        with self.assertRaises(refusal) as caught:
            call(*handed)
        self.assertIs(type(caught.exception), refusal, handed)
        self.assertEqual(repr(handed), before)

    def fair(self, call, *handed):
        """What is told, once it is sure that nothing handed in is changed or kept and every told list is a new one."""
        before = repr(handed)
        told = call(*handed)
        wanted = repr(told)
        lists = lists_within(told)
        self.assertEqual(len(lists), len({id(one) for one in lists}), "one list is told at two places")
        self.assertFalse({id(one) for one in lists} & {id(one) for one in lists_within(handed)}, "a handed list is told")
        for one in lists:
            one.append("spoilt")
            one.reverse()
        self.assertEqual(repr(handed), before)
        again = call(*handed)
        self.assertEqual(repr(again), wanted)
        changed = deepcopy(handed)
        told = call(*changed)
        for one in lists_within(changed):
            one.append("spoilt")
            one.reverse()
        self.assertEqual(repr(told), wanted)
        self.assertEqual(repr(call(*handed)), wanted)
        return again
