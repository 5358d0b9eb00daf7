import itertools
import random
import unittest

from healhalves.asking import asking_paper, open_by
from healhalves.asklookers import lets_asking
from healhalves.errors import NoCode, NoLoss
from tests.helping import (
    NO_NUMBERS, REACHING, SIZES, Agreeable, FairCase, all_codes, all_rows, changed_forms, changed_lists, codes_for,
    few_free, is_asking, losses_drawn, losses_for, no_codes, no_losses, toggled, word_by_reach,
)

AHEAD = ("asked", "fits", "none", "told", "", "Asked", "asked ", None, 1, ("asked",), ["asked"], b"asked", Agreeable())
NO_PAPERS = NO_NUMBERS + [0, 1, "asked", ("asked",), ("asked", []), ("asked", [], []), ("asked", None, None, None)] + [
    ("asked", [], [], []), ("asked", [], [], [], []), ("asked", (), (), ()), ("asked", {}, {}, {}), ("asked", "", "", ""),
    ("asked", [], [], [()]), ("asked", [], [], [([],)]), ("asked", [], [], [([], [])]), ("asked", [], [], [([], [], [])]),
    ("asked", [0], [], []), ("asked", [], [[]], []), ("asked", [], [], [None]), ("asked", [], [], [[[0], []]]),
    ("asked", [None], [None], [None]), ("asked", [Agreeable()], [Agreeable()], [Agreeable()]), (Agreeable(), [], [], []),
    ("asked", Agreeable(), Agreeable(), Agreeable()), ["asked", [], [], []], [("asked", [], [], [])], {"asked": []},
    (("asked", [], [], []),), ("asked", [10 ** 59], [[0, 1]], []), ("asked", [-1], [[0, 1]], []), ("asked", 0, 0, 0),
    ("asked", [], [], [(None, None)]), ("asked", [], [], [({}, {})]), ("asked", [], [], [("0", "")]), ((), (), (), ()),
    ("asked", [], [], [([Agreeable()], [])]), ("asked", [], [], [([[0]], [])]), ("asked", [], [], [([0] * 1000, [])]),
    ("asked", [], [], [([], [])] * 1000), ("asked", [], [[0]] * 1000, []), ("fits", [0]), ("none", [0], []),
]


def spots_that_tell(code, loss, order):
    """Of the spots in this order, the kept ones and the lost ones that no spots ahead tell, by their sums at free
    places; and for each free place the spots of these by which it is told, with the fixed places."""
    size, free, _ = code
    told = {}
    asked = []
    for spot in order:
        places, spots = set(REACHING[size][spot]), {spot}
        for place in told:
            if place in places:
                places, spots = places ^ told[place][0], spots ^ told[place][1]
        left = sorted(places & set(free))
        if left:
            pivot = left[-1]
            for place in told:
                if pivot in told[place][0]:
                    told[place] = (told[place][0] ^ places, told[place][1] ^ spots)
            told[pivot] = (places, spots)
            if spot in loss:
                asked.append(spot)
    return told, sorted(asked)


def rests(code, kept):
    """Rows of kept spots that sum to fixed places alone."""
    for spots in [list(some) for many in (2, 3, 4) for some in itertools.combinations(kept, many)]:
        places = set()
        for spot in spots:
            places ^= set(REACHING[code[0]][spot])
        if not places & set(code[1]):
            yield set(spots), places


def made_paper(draw, code, loss):
    """A paper as anybody could make it: with other spots, and rows to which what sums to nothing free is added."""
    size, free, _ = code
    kept = [spot for spot in range(2 ** size) if spot not in loss]
    order = draw.sample(kept, len(kept)) + draw.sample(loss, len(loss))
    told, asked = spots_that_tell(code, loss, order)
    cores = [[1 if place in told and spot in told[place][1] else 0 for place in range(2 ** size)] for spot in asked]
    some = list(itertools.islice(rests(code, kept), 5))
    rows = []
    for place in free:
        places, spots = told[place][0] - {place}, told[place][1]
        for more, beside in draw.sample(some, draw.randrange(len(some) + 1)):
            places, spots = places ^ beside, spots ^ more
        rows.append((sorted(spots), sorted(places)))
    return ("asked", asked, cores, rows)


def exchanged(row):
    for one, other in itertools.combinations(range(min(len(row), 5)), 2):
        turned = list(row)
        turned[one], turned[other] = turned[other], turned[one]
        yield turned


def changed_papers(draw, code, loss, paper):
    _, spots, cores, rows = paper
    numbers = range(2 ** code[0])
    kinds = changed_forms(paper, AHEAD)
    kinds += [("asked", other, cores, rows) for other in changed_lists(spots)]
    kinds += [("asked", toggled(spots, spot), cores, rows) for spot in numbers]
    kinds += [("asked", spots, other, rows) for other in changed_wholes(cores)]
    kinds += [("asked", spots, cores, other) for other in changed_wholes(rows)]
    kinds += [("asked", spots, rows, cores), ("asked", cores, spots, rows), ("asked", spots, cores + rows, [])]
    for at in draw.sample(range(len(spots)), min(2, len(spots))):
        for core in changed_lists(cores[at]) + [[1 - s if k == p else s for k, s in enumerate(cores[at])] for p in numbers]:
            kinds.append(("asked", spots, cores[:at] + [core] + cores[at + 1:], rows))
        less = [spots[:at] + spots[at + 1:], cores[:at] + cores[at + 1:]]
        kinds.append(("asked", *less, rows))
        kinds += [("asked", sorted(less[0] + [spot]), cores, rows) for spot in loss]
    for at in draw.sample(range(len(rows)), min(2, len(rows))):
        some, places = rows[at]
        others = [(toggled(some, number), places) for number in numbers]
        others += [(some, toggled(places, number)) for number in numbers]
        others += [(other, places) for other in changed_lists(some)] + [(some, other) for other in changed_lists(places)]
        others += changed_forms(rows[at], [[], some, None]) + [(places, some), (some,), (some, places, [])]
        kinds += [("asked", spots, cores, rows[:at] + [row] + rows[at + 1:]) for row in others]
    return kinds


def changed_wholes(row):
    kinds = [row[::-1], row[1:], row[:-1], row + row, row + row[:1], row[:1] + row, tuple(row), [row], {}, None, True, 0, ""]
    kinds += [row + [thing] for thing in (None, [], (), 0, [0], Agreeable())]
    for thing in (None, True, 0, "", [], (), {}, Agreeable()):
        kinds += [row[:at] + [thing] + row[at + 1:] for at in range(min(len(row), 3))]
    return kinds + [row[:at] + row[at + 1:] for at in range(min(len(row), 5))] + list(exchanged(row))


class LetsAskingTest(FairCase):
    def test_by_hand(self):
        code = (2, [1, 3], [0, 1])
        rows = [([0, 2], [0, 2]), ([3], [])]
        self.assertIs(lets_asking(code, [], ("asked", [], [], [([1, 3], []), ([3], [])])), True)
        self.assertIs(lets_asking(code, [], ("asked", [], [], [([0, 2], [0]), ([3], [])])), True)
        self.assertIs(lets_asking(code, [0, 1], ("asked", [1], [[0, 1, 0, 0]], [([1, 3], []), ([3], [])])), True)
        self.assertIs(lets_asking(code, [0, 1], ("asked", [0], [[0, 1, 0, 0]], [([0, 2], [0]), ([3], [])])), True)
        self.assertIs(lets_asking(code, [0, 1], ("asked", [0], [[0, 1, 0, 0]], [([1, 3], []), ([3], [])])), False)
        self.assertIs(lets_asking(code, [0, 1], ("asked", [0], [[0, 1, 0, 0]], rows)), False)
        self.assertIs(lets_asking(code, [0, 1], ("asked", [0], [[1, 0, 0, 0]], [([0, 2], [0]), ([3], [])])), False)
        self.assertIs(lets_asking(code, [0, 1], ("asked", [], [], [([0, 2], [0]), ([3], [])])), False)
        self.assertIs(lets_asking(code, [0, 1], ("asked", [0], [[0, 1, 0, 0]], [([0, 2], [0]), ([2], [2])])), True)
        # A kept spot isn't asked, and no more spots are than there are cores for.
        self.assertIs(lets_asking(code, [0, 1], ("asked", [3], [[0, 1, 0, 0]], [([1, 3], []), ([3], [])])), False)
        self.assertIs(
            lets_asking(code, [0, 1], ("asked", [0, 1], [[0, 1, 0, 0]] * 2, [([1, 3], []), ([3], [])])), False
        )

    def test_papers_as_anybody_could_make_them(self):
        draw = random.Random("made")
        for size in SIZES:
            spots = set()
            for code in codes_for(size) + few_free(size, 6, 6):
                for loss in losses_drawn(size, 5):
                    for _ in range(2):
                        paper = made_paper(draw, code, loss)
                        self.assertTrue(is_asking(code, loss, paper), (code, loss, paper))
                        self.assertIs(lets_asking(code, loss, paper), True)
                        self.assertEqual(len(paper[1]), open_by(code, loss))
                        spots.add(paper[1] == asking_paper(code, loss)[1])
            self.assertEqual(spots, {True, False})

    def test_all_spots_and_cores_of_small_sizes(self):
        """With rows that are right for what is told, any spots and cores are let by just where they are right too."""
        for size in (1, 2):
            numbers = range(2 ** size)
            for code in list(all_codes(size))[:: 1 if size == 1 else 5]:
                for loss in losses_for(size):
                    rows = asking_paper(code, loss)[3]
                    for many in (0, 1) if size == 2 else (0, 1, 2):
                        for spots in itertools.combinations(numbers, many):
                            for cores in itertools.product(all_rows(2 ** size), repeat=many):
                                paper = ("asked", list(spots), list(cores), rows)
                                wanted = is_asking(code, loss, paper)
                                self.assertIs(lets_asking(code, loss, paper), wanted, (code, loss, paper))

    def test_all_rows_of_a_place_of_small_sizes(self):
        draw = random.Random("rows")
        for size in (1, 2):
            numbers = [[k for k in range(2 ** size) if row[k]] for row in all_rows(2 ** size)]
            codes = list(all_codes(size))
            for code in codes if size == 1 else draw.sample(codes, 12):
                losses = losses_for(size)
                for loss in losses if size == 1 else draw.sample(losses, 6):
                    _, spots, cores, rows = asking_paper(code, loss)
                    at = draw.randrange(len(rows))
                    for row in itertools.product(numbers, repeat=2):
                        paper = ("asked", spots, cores, rows[:at] + [row] + rows[at + 1:])
                        self.assertIs(lets_asking(code, loss, paper), is_asking(code, loss, paper), (code, loss, paper))

    def test_changed_papers_are_let_by_just_where_they_still_hold(self):
        draw = random.Random("changed")
        for size in SIZES:
            seen = set()
            for code in codes_for(size)[:: 1 if size <= 2 else 3]:
                for loss in losses_drawn(size, 3):
                    for told in (asking_paper(code, loss), made_paper(draw, code, loss)):
                        papers = changed_papers(draw, code, loss, told)
                        for paper in papers if size <= 2 else draw.sample(papers, min(250, len(papers))):
                            wanted = is_asking(code, loss, paper)
                            self.assertIs(lets_asking(code, loss, paper), wanted, (code, loss, paper))
                            seen.add(wanted)
            self.assertEqual(seen, {True, False})

    def test_a_paper_on_one_code_or_loss_is_none_on_others_unless_it_holds_there(self):
        for size in (1, 2, 3):
            pairs = [(code, loss) for code in codes_for(size)[:8] for loss in losses_drawn(size, 4)]
            papers = [asking_paper(code, loss) for code, loss in pairs]
            for code, loss in pairs:
                for paper in papers:
                    self.assertIs(lets_asking(code, loss, paper), is_asking(code, loss, paper))

    def test_the_word_at_a_lost_spot_that_is_not_asked_is_free(self):
        # The places 2 and 3 reach the lost spot 2 both, so the first core's word has 1 there or not.
        code = (2, [2, 3], [0, 0])
        paper = asking_paper(code, [0, 1, 2, 3])
        self.assertEqual(len(paper[1]), 2)
        self.assertTrue(any(
            word_by_reach(2, core)[spot] for core in paper[2] for spot in range(4) if spot not in paper[1]
        ))
        self.assertIs(lets_asking(code, [0, 1, 2, 3], paper), True)

    def test_truths_are_no_signs_and_no_numbers(self):
        code = (1, [0], [1])
        for paper, wanted in (
            (("asked", [0], [[1, 0]], [([0], [1])]), True), (("asked", [False], [[1, 0]], [([0], [1])]), False),
            (("asked", [0], [[True, 0]], [([0], [1])]), False), (("asked", [0], [[1, False]], [([0], [1])]), False),
            (("asked", [0], [[1, 0]], [([False], [1])]), False), (("asked", [0], [[1, 0]], [([0], [True])]), False),
            (("asked", [0], [[1, 0]], [[[0], [1]]]), False), (("asked", [0], [[1, 0]], (([0], [1]),)), False),
            (("asked", [0], [(1, 0)], [([0], [1])]), False), (("asked", [0], ([1, 0],), [([0], [1])]), False),
            (("asked", (0,), [[1, 0]], [([0], [1])]), False), (("asked", [0], [[1, 0]], [((0,), [1])]), False),
        ):
            self.assertIs(lets_asking(code, [0], paper), wanted, paper)

    def test_anything_is_answered_and_nothing_is_changed(self):
        for size in SIZES:
            length = 2 ** size
            for code in ((size, [0], [0] * (length - 1)), (size, list(range(length)), [])):
                for loss in ([], [0], list(range(length))):
                    for paper in NO_PAPERS:
                        self.assertFalse(is_asking(code, loss, paper))
                        self.assertIs(self.fair(lets_asking, code, loss, paper), False, paper)


class RefusalsTest(FairCase):
    def test_no_code_goes_first(self):
        for code in no_codes():
            for loss in ([], [0, 1], None, [1, 0], [4]):
                for paper in (("asked", [], [], [([1, 3], []), ([3], [])]), None):
                    self.assertRefused(NoCode, lets_asking, code, loss, paper)

    def test_no_loss(self):
        for size in SIZES:
            for code in codes_for(size)[:4]:
                for loss in no_losses(size):
                    for paper in (asking_paper(code, []), None):
                        self.assertRefused(NoLoss, lets_asking, code, loss, paper)


if __name__ == "__main__":
    unittest.main()
