"""What the tests share: odd things, references that go through everything, and a case that asks for fairness."""

import functools
import itertools
import random
import unittest
from copy import deepcopy
from fractions import Fraction

SIZES = (1, 2, 3, 4, 5)


class Agreeable:
    """Says that it equals everything, so that no answer may rest on == alone."""

    def __eq__(self, other):
        return True

    def __hash__(self):
        return 1


# Of no kind that the program speaks of, wherever they are handed in as a number.
NO_NUMBERS = [True, False, None, "", "0", "1", "a", b"1", [], [0], [1], (), (1,), {}, {1: 1}, object(), Agreeable(), int]
NO_SIZES = NO_NUMBERS + [0, -1, -5, 6, 7, 32, 10 ** 59, -(10 ** 59)]


def no_places(size):
    return NO_NUMBERS + [-1, -2, 2 ** size, 2 ** size + 1, 10 ** 59, -(10 ** 59)]


def all_rows(length):
    return [list(row) for row in itertools.product([0, 1], repeat=length)]


def single(length, number):
    return [1 if other == number else 0 for other in range(length)]


def cores_for(size, many=30):
    """All cores of a small size; of a greater one those of none, all and one 1, and some drawn ones."""
    length = 2 ** size
    if size <= 3:
        return all_rows(length)
    draw = random.Random(f"cores {size}")
    drawn = [[draw.randrange(2) for _ in range(length)] for _ in range(many)]
    return [[0] * length, [1] * length] + [single(length, place) for place in range(length)] + drawn


def figures(size, number):
    return format(number, f"0{size}b")


def reaches_by_figures(size, place, spot):
    return all(lower <= upper for lower, upper in zip(figures(size, spot), figures(size, place)))


REACHING = {
    size: [[place for place in range(2 ** size) if reaches_by_figures(size, place, spot)] for spot in range(2 ** size)]
    for size in SIZES
}


def word_by_reach(size, core):
    """The word as the sum, at each spot, over all places that reach it."""
    return [sum(core[place] for place in places) % 2 for places in REACHING[size]]


def turn_by_figures(size, one, other):
    """The turn of the step up from the one place to the other, read off the written figures; None if it is no step."""
    first, second = figures(size, one), figures(size, other)
    unlike = [at for at in range(size) if first[at] != second[at]]
    if len(unlike) == 1 and first[unlike[0]] == "0":
        return list(range(2 ** size))
    if len(unlike) == 2 and unlike[1] == unlike[0] + 1 and first[unlike[0]:unlike[1] + 1] == "01":
        return [int(exchanged(figures(size, spot), unlike[0]), 2) for spot in range(2 ** size)]
    return None


def exchanged(written, at):
    return written[:at] + written[at + 1] + written[at] + written[at + 2:]


def is_order(size, worse, better, paper):
    """A paper on a worse and a better place as the document has it."""
    if type(paper) is not tuple or not paper or type(paper[0]) is not str:
        return False
    if paper[0] == "row" and len(paper) == 3:
        places, turn = paper[1:]
        if not are_numbers(places, 2 ** size) or not are_numbers(turn, 2 ** size) or len(turn) != 2 ** size:
            return False
        if not places or (places[0], places[-1]) != (worse, better):
            return False
        steps = [turn_by_figures(size, one, other) for one, other in zip(places, places[1:])]
        return None not in steps and all(come_to(steps, spot) == turn[spot] for spot in range(2 ** size))
    if paper[0] == "ones" and len(paper) == 2:
        if type(paper[1]) is not int or not 1 <= paper[1] <= size:
            return False
        return figures(size, better)[:paper[1]].count("1") < figures(size, worse)[:paper[1]].count("1")
    return False


def are_numbers(thing, end):
    return type(thing) is list and all(type(number) is int and 0 <= number < end for number in thing)


def come_to(steps, spot):
    for step in steps[::-1]:
        spot = step[spot]
    return spot


def drawn_net(draw, size, rounds):
    net = []
    for _ in range(rounds):
        spots = list(range(2 ** size))
        draw.shuffle(spots)
        pairs = draw.randrange(len(spots) // 2 + 1)
        net.append([(spots[2 * k], spots[2 * k + 1]) for k in range(pairs)])
    return net


def no_nets(size):
    last = 2 ** size - 1
    things = NO_NUMBERS[:8] + [(), (1,), {}, {1: 1}, object(), 0, 1]
    things = [thing for thing in things if thing != []]
    things += [[[]] * 41, [[(0, 1)]] * 41, [[]] * 1000]
    things += [([(0, 1)],), [((0, 1),)], [[[0, 1]]], [(0, 1)], ((0, 1),), [[()]], [[(0,)]], [[(0, 1, 0)]]]
    things += [[[(0, 0)]], [[(last, last)]], [[(0, 1), (0, 1)]], [[(0, 1), (1, 0)]]]
    things += [[[], [(0, 1)], [(0, 1), (0, 1)]], [None], [[None]], ["01"], [["01"]], [[0, 1]], [0], [{}], [{(0, 1): 1}]]
    for thing in no_places(size):
        things += [[[(thing, 0)]], [[(0, thing)]], [[(0, 1)], [(thing, 1)]]]
    if size > 1:
        things += [[[(0, 1), (1, 2)]], [[(0, 1), (2, 0)]], [[(0, 1), (2, 1)]], [[(0, 1), (2, 3), (last, 0)]]]
        things += [[[(0, 1), (2, 3), (2, 3)]], [[(0, 1), (2, 2)]], [[(0, 1), [2, 3]]], [[(0, 1), None]]]
    return things


def losses_for(size, many=40):
    """All losses of a small size; of a greater one those of none, all, one and all but one spot, and drawn ones."""
    spots = range(2 ** size)
    if size <= 3:
        return [[spot for spot in spots if row[spot]] for row in all_rows(2 ** size)]
    draw = random.Random(f"losses {size}")
    drawn = [sorted(draw.sample(spots, draw.randrange(2 ** size + 1))) for _ in range(many)]
    ones = [[spot] for spot in spots] + [[other for other in spots if other != spot] for spot in spots]
    return [[], list(spots)] + ones + drawn


def no_losses(size):
    last = 2 ** size - 1
    things = [thing for thing in NO_NUMBERS if isinstance(thing, Agreeable) or thing not in ([], [0], [1])]
    things += [0, 1, (0,), tuple(range(2 ** size)), "0", "01", {0: 0}, {0}, range(1)]
    things += [[0, 0], [last, last], [1, 0], [last, 0], [0, last, 0], list(range(2 ** size)) + [last], [[0]], [(0,)]]
    for thing in no_places(size):
        things += [[thing], [0, thing], [thing, last]]
    return things


def is_lost(size, loss, place):
    """As the document tells it, place by place."""
    if size == 0:
        return 0 in loss
    half = 2 ** (size - 1)
    pairs = [(spot in loss, spot + half in loss) for spot in range(half)]
    if place < half:
        return is_lost(size - 1, [spot for spot in range(half) if any(pairs[spot])], place)
    return is_lost(size - 1, [spot for spot in range(half) if all(pairs[spot])], place - half)


def lost_places(size, loss):
    return [place for place in range(2 ** size) if is_lost(size, loss, place)]


def pair(one):
    return (one.numerator, one.denominator)


def halves_by_fractions(shares):
    half = len(shares) // 2
    pairs = [(shares[spot], shares[spot + half]) for spot in range(half)]
    return [p + q - p * q for p, q in pairs], [p * q for p, q in pairs]


def shares_by_fractions(shares):
    if len(shares) == 1:
        return shares
    worse, better = halves_by_fractions(shares)
    return shares_by_fractions(worse) + shares_by_fractions(better)


def roads_for(size, many=6):
    """Roads of one share everywhere, of 0, 1 and others among them, and of twelve figures."""
    length = 2 ** size
    draw = random.Random(f"roads {size}")
    ends = [(0, 1), (1, 1)]
    small = ends + [(1, 2), (1, 3), (2, 3), (3, 4), (5, 7), (1, 10)]
    most = 10 ** 12 - 1
    great = ends + [(1, most), (most - 1, most), (most - 2, most - 1), (123456789011, 999999999989)]
    great += [pair(Fraction(draw.randrange(most), most - draw.randrange(10 ** 6))) for _ in range(6)]
    same = [[share] * length for share in small + great[2:5]]
    return same + [[draw.choice(shares) for _ in range(length)] for shares in (ends, small, great) for _ in range(many)]


NO_SHARES = NO_NUMBERS + [
    0, 1, "1/2", (1,), (1, 2, 3), [0, 1], [1, 2], {0: 1}, ((1, 2),), (2, 4), (0, 2), (5, 5), (0, 0), (1, 0), (0, -1),
    (-1, -2), (2, 1), (3, 2), (1000000000000, 999999999999), (-1, 2), (-1, 1), (1, 10 ** 12), (10 ** 12 - 1, 10 ** 12),
    (10 ** 12, 10 ** 12 + 1), (10 ** 59 - 1, 10 ** 59), (True, 1), (1, True), (False, 1), (1, "2"), ("1", 2), (None, 1),
    (1, None), (Agreeable(), 1), (0, Agreeable()), ([1], 2), (1, (2,)),
]


def no_roads():
    half = (1, 2)
    things = NO_NUMBERS + [0, 1, 2, half, (half, half), "1/2", "1/2 1/2", {0: half, 1: half}]
    things += [[half] * length for length in range(70) if length not in (2, 4, 8, 16, 32)] + [[half] * 1000]
    things += [tuple([half] * length) for length in (2, 4, 8, 16, 32)] + [[[half, half]], [[half], [half]], [(half, half)]]
    for length in (2, 4, 8, 16, 32):
        for spot in sorted({0, length // 2, length - 1}):
            things += [[half] * spot + [share] + [half] * (length - spot - 1) for share in NO_SHARES]
    return things


def all_codes(size):
    """All codes of a small size, with all fixed signs."""
    places = range(2 ** size)
    for taken in all_rows(2 ** size):
        free = [place for place in places if taken[place]]
        if free:
            for fixed in all_rows(2 ** size - len(free)):
                yield (size, free, fixed)


def codes_for(size, many=12):
    """Codes with one place free, with all, and drawn ones."""
    length = 2 ** size
    draw = random.Random(f"codes {size}")
    frees = [[0], [length - 1], [draw.randrange(length)], list(range(length)), list(range(1, length))]
    frees += [sorted(draw.sample(range(length), draw.randrange(1, length + 1))) for _ in range(many)]
    return [(size, free, [draw.randrange(2) for _ in range(length - len(free))]) for free in frees]


def no_codes():
    code = (2, [1, 3], [0, 1])
    things = NO_NUMBERS + [0, 1, 2, "*0*1", list(code), code[:2], code[1:], code + (None,), code + ([],), (code,), [code]]
    things += [code[::-1], (2, code), (2, [1, 3], [0], [1]), {2: code}, (), (2,), (None, None, None)]
    things += [(size, [1, 3], [0, 1]) for size in NO_SIZES + [1, 3, 4, 5]]
    things += [(size, [0], [1]) for size in NO_SIZES + [2, 3, 4, 5]] + [(0, [0], []), (6, [0], [0] * 63)]
    things += [(size, [], [0] * 2 ** size) for size in SIZES]
    things += [(size, list(range(2 ** size)), [0]) for size in SIZES]
    things += [(size, [2 ** size], [0] * (2 ** size - 1)) for size in SIZES]
    things += [(size, [0, 2 ** size], [0] * (2 ** size - 2)) for size in SIZES]
    things += [(size, list(range(2 ** size + 1)), []) for size in SIZES]
    things += [(2, free, [0, 1]) for free in ([3, 1], [1, 1], [3, 3], [1], [1, 2, 3], (1, 3), "13", {1: 1, 3: 3}, {1, 3})]
    things += [(2, [1, 1, 3], [0, 1]), (2, [1, 3, 3], [0, 1]), (2, [[1], [3]], [0, 1]), (2, [[1, 3]], [0, 1])]
    things += [(2, [thing, 3], [0, 1]) for thing in no_places(2)] + [(2, [1, thing], [0, 1]) for thing in no_places(2)]
    things += [(2, thing, [0, 1]) for thing in NO_NUMBERS + [0, 1, 3]] + [(2, [1, 3], thing) for thing in NO_NUMBERS + [0, 1]]
    things += [(2, [1, 3], fixed) for fixed in ([], [0], [0, 1, 0], (0, 1), "01", {0: 0, 1: 1}, [[0, 1]], [[0], [1]])]
    for thing in NO_NUMBERS + [2, -1, 10 ** 59]:
        things += [(2, [1, 3], [thing, 1]), (2, [1, 3], [0, thing]), (1, [0], [thing]), (2, [0, 1, 2, 3], [thing])]
    return things


def core_by_places(code, data):
    size, free, fixed = code
    core, data, fixed = [], list(data), list(fixed)
    for place in range(2 ** size):
        core.append(data.pop(0) if place in free else fixed.pop(0))
    return core


def data_for(code, many=6):
    """All data where these are few, else those of all 0, all 1, and drawn ones."""
    length = len(code[1])
    if length <= 3:
        return all_rows(length)
    draw = random.Random(f"data {code}")
    return [[0] * length, [1] * length] + [[draw.randrange(2) for _ in range(length)] for _ in range(many)]


def came_with(word, loss):
    return [None if spot in loss else sign for spot, sign in enumerate(word)]


def fits_came(word, came):
    return all(sign is None or sign == other for sign, other in zip(came, word))


def all_came(size):
    return [list(came) for came in itertools.product([0, 1, None], repeat=2 ** size)]


def drawn_came(draw, size, many):
    """What came with more and fewer signs lost; none at all and all, too."""
    for _ in range(many):
        part = draw.choice([0, 1, 1, 2, 3, 5, 8])
        yield [None if draw.randrange(8) < part else draw.randrange(2) for _ in range(2 ** size)]


def no_came(size):
    row = [0] * 2 ** size
    things = NO_NUMBERS + [0, 1, tuple(row), "0" * 2 ** size, row[1:], row + [0], row + [None], row + row, [row], [[]]]
    things += [row[: len(row) // 2], {spot: 0 for spot in range(2 ** size)}, tuple([None] * 2 ** size), [None]]
    for thing in [thing for thing in NO_NUMBERS if thing is not None] + [2, -1, "?", "None", 10 ** 59]:
        things += [row[1:] + [thing], [thing] + row[1:], [None] * (2 ** size - 1) + [thing]]
    return things


def turned_at(row, spots):
    """The row with other signs at these spots, where there are signs."""
    return [1 - sign if spot in spots and sign is not None else sign for spot, sign in enumerate(row)]


def came_for(code, many=10):
    """What came of words of the code with none, some and all signs lost, of such with signs turned, and any signs."""
    length = 2 ** code[0]
    draw = random.Random(f"came for {code}")
    rows = [[None] * length]
    for data in data_for(code)[-2:]:
        word = word_by_reach(code[0], core_by_places(code, data))
        losses = [[]] + [draw.sample(range(length), draw.randrange(length + 1)) for _ in range(many)]
        cut = [came_with(word, loss) for loss in losses]
        rows += cut + [turned_at(came, [draw.randrange(length)]) for came in cut]
    return rows + list(drawn_came(draw, code[0], many))


def few_free(size, most, many=12):
    """Codes of the size of which all data can be gone through."""
    draw = random.Random(f"few free {size} {most}")
    frees = [sorted(draw.sample(range(2 ** size), draw.randrange(1, min(most, 2 ** size) + 1))) for _ in range(many)]
    return [(size, free, [draw.randrange(2) for _ in range(2 ** size - len(free))]) for free in frees]


def fit_by_all_data(code, came):
    """By going through all data, in order."""
    rows = all_rows(len(code[1]))
    return [data for data in rows if fits_came(word_by_reach(code[0], core_by_places(code, data)), came)]


def how_many_by_rank(code, came):
    """Each kept spot asks for a sum of free places, written as a number, with the sign that it must have behind it."""
    size, free, _ = code
    bare = word_by_reach(size, core_by_places(code, [0] * len(free)))
    heads = {}
    for spot in [spot for spot in range(2 ** size) if came[spot] is not None]:
        number = 0
        for place in free:
            number = 2 * number + (place in REACHING[size][spot])
        number = 2 * number + (came[spot] + bare[spot]) % 2
        while number > 1 and number.bit_length() in heads:
            number ^= heads[number.bit_length()]
        if number == 1:
            return 0
        if number:
            heads[number.bit_length()] = number
    return 2 ** (len(free) - len(heads))


def changed_forms(paper, words):
    """The paper with a part more or less, turned about, within something, and with other words ahead."""
    kinds = [list(paper), paper[::-1], paper[:-1], paper[1:], paper + ([],), paper + (None,), (paper,), paper + paper]
    return kinds + [(word,) + paper[1:] for word in words] + [(paper[0], paper), [paper], (), (paper[0],)]


def toggled(numbers, number):
    return sorted(set(numbers) ^ {number})


def losses_drawn(size, many=8):
    """No loss, all spots, and drawn ones."""
    draw = random.Random(f"losses drawn {size}")
    spots = range(2 ** size)
    drawn = [sorted(draw.sample(spots, draw.randrange(1, 2 ** size))) for _ in range(many)]
    return [[], list(spots)] + drawn


def is_asking(code, loss, paper):
    """A paper of asking as the document has it."""
    size, free, _ = code
    if type(paper) is not tuple or len(paper) != 4 or type(paper[0]) is not str or paper[0] != "asked":
        return False
    _, spots, cores, rows = paper
    kept = [spot for spot in range(2 ** size) if spot not in loss]
    fixed = [place for place in range(2 ** size) if place not in free]
    if not is_some_of(spots, loss) or type(cores) is not list or type(rows) is not list:
        return False
    if len(cores) != len(spots) or len(rows) != len(free):
        return False
    for own, core in zip(spots, cores):
        if type(core) is not list or len(core) != 2 ** size or any(repr(sign) not in ("0", "1") for sign in core):
            return False
        word = word_by_reach(size, core)
        if any(core[place] for place in fixed) or any(word[spot] for spot in kept):
            return False
        if any(word[spot] != (spot == own) for spot in spots):
            return False
    for place, row in zip(free, rows):
        if type(row) is not tuple or len(row) != 2:
            return False
        if not is_some_of(row[0], sorted(kept + spots)) or not is_some_of(row[1], fixed):
            return False
        if not sums_to_place(size, place, tuple(row[0]), tuple(row[1])):
            return False
    return True


@functools.lru_cache(maxsize=None)
def sums_to_place(size, place, spots, places):
    return all(
        (sum(WORDS[core][spot] for spot in spots) + sum(core[other] for other in places)) % 2 == core[place]
        for core in CORES[size]
    )


def can_be_told(size, loss, place):
    """By going through all cores: no two that part at the place agree in all that is known."""
    known = {}
    for core in all_rows(2 ** size):
        word = WORDS[tuple(core)]
        seen = (tuple(core[:place]), tuple(sign for spot, sign in enumerate(word) if spot not in loss))
        if known.setdefault(seen, core[place]) != core[place]:
            return False
    return True


def is_paper(size, loss, place, paper):
    """A paper on a place as the document has it, held against all cores of a small size, and enough of a greater."""
    if type(paper) is not tuple or not paper or type(paper[0]) is not str:
        return False
    kept = [spot for spot in range(2 ** size) if spot not in loss]
    if paper[0] == "told" and len(paper) == 3:
        return is_some_of(paper[1], kept) and is_some_of(paper[2], list(range(place))) and all(
            (sum(WORDS[core][spot] for spot in paper[1]) + sum(core[ahead] for ahead in paper[2])) % 2 == core[place]
            for core in CORES[size]
        )
    if paper[0] == "open" and len(paper) == 2:
        core = paper[1]
        if type(core) is not list or len(core) != 2 ** size or any(repr(sign) not in ("0", "1") for sign in core):
            return False
        word = word_by_reach(size, core)
        return sum(core[:place]) == 0 and core[place] == 1 and all(word[spot] == 0 for spot in kept)
    return False


def changed_lists(row):
    """The list with a thing put in, taken out, put otherwise, turned about, or of another kind."""
    kinds = [row[::-1], row + row, row[1:], row[:-1], [0] + row, row + [0], row + [-1], [-1] + row, row + [32], [1] + row]
    kinds += [tuple(row), {}, None, True, 0, "".join(str(one) for one in row), [row], [tuple(row)], set(row)]
    for place in range(len(row)):
        for thing in (True, False, None, str(row[place]), [row[place]], (row[place],), Agreeable(), 2, -1, row[place] + 1):
            kinds.append(row[:place] + [thing] + row[place + 1:])
        kinds.append(row[:place] + [row[place]] + row[place:])
    return kinds


def is_some_of(thing, numbers):
    if type(thing) is not list or any(type(number) is not int for number in thing):
        return False
    return thing == [number for number in numbers if number in thing]


CORES = {size: [tuple(core) for core in cores_for(size)] for size in SIZES}
WORDS = {core: word_by_reach(size, core) for size in SIZES for core in CORES[size]}


def lists_within(thing):
    found = [thing] if isinstance(thing, list) else []
    if isinstance(thing, (list, tuple)):
        for part in thing:
            found.extend(lists_within(part))
    return found


class FairCase(unittest.TestCase):
    def assertSame(self, one, other):
        """Alike in kind too: 1 and True are equal, but not the same answer."""
        self.assertEqual(repr(one), repr(other))

    def assertRefused(self, refusal, call, *handed):
        before = repr(handed)
        with self.assertRaises(refusal) as caught:
            call(*handed)
        self.assertIs(type(caught.exception), refusal, handed)
        self.assertEqual(repr(handed), before)

    def fair(self, call, *handed):
        """What is told, once it is sure that nothing handed in is changed or kept and every told list is a new one."""
        before = repr(handed)
        told = call(*handed)
        wanted = repr(told)
        lists = lists_within(told)
        self.assertEqual(len(lists), len({id(one) for one in lists}), "one list is told at two places")
        self.assertFalse({id(one) for one in lists} & {id(one) for one in lists_within(handed)}, "a handed list is told")
        for one in lists:
            one.append("spoilt")
            one.reverse()
        self.assertEqual(repr(handed), before)
        again = call(*handed)
        self.assertEqual(repr(again), wanted)
        changed = deepcopy(handed)
        told = call(*changed)
        for one in lists_within(changed):
            one.append("spoilt")
            one.reverse()
        self.assertEqual(repr(told), wanted)
        self.assertEqual(repr(call(*handed)), wanted)
        return again
