import itertools
import random
import unittest

from healhalves.errors import NoCame, NoCode
from healhalves.fitpapers import fit_paper, lets_fit
from healhalves.fitting import how_many_fit
from tests.helping import (
    CORES, NO_NUMBERS, SIZES, WORDS, Agreeable, FairCase, all_came, all_codes, all_rows, came_for, changed_forms,
    changed_lists, codes_for, core_by_places, few_free, fits_came, how_many_by_rank, is_some_of, no_came, no_codes,
    single, toggled, word_by_reach,
)

AHEAD = ("fits", "none", "told", "asked", "", "Fits", "none ", None, 1, ("fits",), ["none"], b"fits", Agreeable())
NO_PAPERS = NO_NUMBERS + [0, 1, "fits", "none", ("fits",), ("none",), ("fits", None), ("none", None, None)] + [
    ("none", [], []), ("none", [0]), ("none", [0], [], []), ("fits", []), ("fits", [], []), ("fits", {}), ("fits", "01"),
    ("none", "", ""), ("none", {}, {}), ("none", (), ()), ("none", 0, 0), ("none", [None], []), ("none", [], [None]),
    ("none", [[0]], []), ("none", [], [[0]]), ("none", Agreeable(), []), ("none", [Agreeable()], []), ("fits", 1),
    ("fits", Agreeable()), ("fits", [Agreeable()]), (Agreeable(), [0]), (Agreeable(), [0], []), ["fits", [0]],
    ["none", [0], []], [("fits", [0])], (("fits", [0]),), {"fits": [0]}, ((), (), ()), ("none", [-1], []),
    ("none", [10 ** 59], []), ("none", [], [10 ** 59]), ("fits", [10 ** 59]), ("told", [0], []), ("open", [0, 1]),
    ("none", [0] * 1000, []), ("fits", [0] * 1000), ("fits", [[0, 1]]), ("fits", ([0, 1],)), ("none", range(1), []),
]


def is_fit_paper(code, came, paper):
    """A paper on what came as the document has it."""
    size, free, fixed = code
    if type(paper) is not tuple or not paper or type(paper[0]) is not str:
        return False
    if paper[0] == "fits" and len(paper) == 2:
        data = paper[1]
        if type(data) is not list or len(data) != len(free) or any(repr(sign) not in ("0", "1") for sign in data):
            return False
        return fits_came(word_by_reach(size, core_by_places(code, data)), came)
    if paper[0] == "none" and len(paper) == 3:
        spots, places = paper[1:]
        others = [place for place in range(2 ** size) if place not in free]
        if not is_some_of(spots, [spot for spot in range(2 ** size) if came[spot] is not None]):
            return False
        if not is_some_of(places, others):
            return False
        signs = dict(zip(others, fixed))
        if sum(came[spot] for spot in spots) % 2 == sum(signs[place] for place in places) % 2:
            return False
        return all(
            (sum(WORDS[core][spot] for spot in spots) + sum(core[place] for place in places)) % 2 == 0
            for core in CORES[size]
        )
    return False


def changed_papers(size, paper):
    kinds = changed_forms(paper, AHEAD)
    for part in range(1, len(paper)):
        kinds += [paper[:part] + (row,) + paper[part + 1:] for row in changed_lists(paper[part])]
    numbers = range(2 ** size)
    if paper[0] == "fits":
        kinds += [("fits", [1 - sign if at == k else sign for k, sign in enumerate(paper[1])]) for at in range(len(paper[1]))]
        return kinds + [("none", paper[1], []), ("none", [0], [0]), ("none", [2 ** size - 1], [2 ** size - 1])]
    kinds += [("none", toggled(paper[1], number), paper[2]) for number in numbers]
    kinds += [("none", paper[1], toggled(paper[2], number)) for number in numbers]
    kinds += [("none", toggled(paper[1], 2 ** size - 1), toggled(paper[2], number)) for number in numbers]
    return kinds + [("none", paper[2], paper[1]), ("fits", paper[1]), ("fits", paper[2])]


def some_of(numbers):
    return [list(some) for many in range(len(numbers) + 1) for some in itertools.combinations(numbers, many)]


class FitPaperTest(FairCase):
    def test_by_hand(self):
        code = (2, [1, 3], [0, 1])
        self.assertSame(self.fair(fit_paper, code, [0, 1, 1, 0]), ("fits", [1, 0]))
        self.assertIn(self.fair(fit_paper, code, [0, 1, 1, 1]), [("none", [0, 1, 2, 3], [0]), ("none", [2, 3], [2])])
        self.assertSame(self.fair(fit_paper, code, [None, 1, 0, 0]), ("none", [2, 3], [2]))
        self.assertSame(self.fair(fit_paper, (1, [1], [0]), [1, 0]), ("none", [0, 1], [0]))
        self.assertSame(self.fair(fit_paper, (1, [0], [0]), [None, 1]), ("none", [1], [1]))

    def test_of_small_sizes_the_kind_that_is_due(self):
        for size in (1, 2):
            for code in all_codes(size):
                for came in all_came(size):
                    self.check_paper(code, came)

    def test_of_each_size_the_kind_that_is_due(self):
        for size in SIZES:
            kinds = {self.check_paper(code, came) for code in codes_for(size) for came in came_for(code)}
            self.assertEqual(kinds, {"fits", "none"})

    def check_paper(self, code, came):
        paper = fit_paper(code, came)
        self.assertEqual(paper[0], "fits" if how_many_by_rank(code, came) else "none")
        self.assertTrue(is_fit_paper(code, came, paper), (code, came, paper))
        self.assertIs(lets_fit(code, came, paper), True)
        return paper[0]

    def test_nothing_is_changed(self):
        for size in SIZES:
            for code in codes_for(size)[:8]:
                for came in came_for(code, 3):
                    paper = self.fair(fit_paper, code, came)
                    self.assertIs(self.fair(lets_fit, code, came, paper), True)


class LetsFitTest(FairCase):
    def test_by_hand(self):
        code = (2, [1, 3], [0, 1])
        self.assertIs(lets_fit(code, [None, None, 1, 0], ("fits", [0, 0])), True)
        self.assertIs(lets_fit(code, [None, None, 1, 0], ("fits", [1, 0])), True)
        self.assertIs(lets_fit(code, [None, None, 1, 0], ("fits", [1, 1])), False)
        self.assertIs(lets_fit(code, [None, 1, 0, 0], ("none", [2, 3], [2])), True)
        self.assertIs(lets_fit(code, [None, 1, 1, 0], ("none", [2, 3], [2])), False)
        self.assertIs(lets_fit(code, [None, 1, 0, None], ("none", [2, 3], [2])), False)
        self.assertIs(lets_fit(code, [1, 1, 0, 0], ("none", [0, 1], [0, 2])), True)
        self.assertIs(lets_fit(code, [1, 1, 0, 0], ("none", [0, 1], [2])), False)
        # The places 1 and 3 are free, so nothing is told of them.
        self.assertIs(lets_fit(code, [1, 0, 1, 0], ("none", [1, 3], [1])), False)
        self.assertIs(lets_fit(code, [1, 0, 1, 0], ("none", [3], [3])), False)

    def test_all_papers_of_small_sizes(self):
        """Whoever writes them, papers of just one kind are let by."""
        draw = random.Random("small")
        for size in (1, 2):
            numbers = some_of(range(2 ** size))
            none = [("none", spots, places) for spots in numbers for places in numbers]
            codes = list(all_codes(size))
            for code in codes if size == 1 else draw.sample(codes, 25):
                rows = all_came(size)
                for came in rows if size == 1 else draw.sample(rows, 16):
                    kinds = set()
                    for paper in none + [("fits", data) for data in all_rows(len(code[1]))]:
                        wanted = is_fit_paper(code, came, paper)
                        self.assertIs(lets_fit(code, came, paper), wanted, (code, came, paper))
                        if wanted:
                            kinds.add(paper[0])
                    self.assertEqual(kinds, {"fits" if how_many_fit(code, came) else "none"})

    def test_rows_that_sum_to_places_of_size_three(self):
        """With each row of spots those places alone that make it hold for every core, fixed or not."""
        draw = random.Random("rows")
        seen = set()
        for code in few_free(3, 4, 30):
            for came in came_for(code, 3):
                for _ in range(10):
                    spots = [spot for spot in range(8) if draw.randrange(2)]
                    places = [k for k in range(8) if sum((k & spot) == spot for spot in spots) % 2]
                    paper = ("none", spots, places)
                    wanted = is_fit_paper(code, came, paper)
                    self.assertIs(lets_fit(code, came, paper), wanted)
                    seen.add(wanted)
        self.assertEqual(seen, {True, False})

    def test_changed_papers_are_let_by_just_where_they_still_hold(self):
        for size in SIZES:
            seen = {"fits": set(), "none": set()}
            for code in codes_for(size)[:: 1 if size <= 3 else 3]:
                for came in came_for(code, 2)[::2]:
                    told = fit_paper(code, came)
                    for paper in changed_papers(size, told):
                        wanted = is_fit_paper(code, came, paper)
                        self.assertIs(lets_fit(code, came, paper), wanted, (code, came, paper))
                        self.assertFalse(wanted and paper[0] != told[0], "papers of both kinds are let by")
                        seen[told[0]].add(wanted)
            self.assertEqual(seen["fits"], {True, False})

    def test_a_paper_on_one_code_is_none_on_others_unless_it_holds_there(self):
        for size in (1, 2, 3):
            pairs = [(code, came) for code in codes_for(size)[:8] for came in came_for(code, 1)]
            papers = [fit_paper(code, came) for code, came in pairs]
            for code, came in pairs:
                for paper in papers:
                    self.assertIs(lets_fit(code, came, paper), is_fit_paper(code, came, paper))

    def test_truths_are_no_signs_and_no_numbers(self):
        self.assertIs(lets_fit((1, [0, 1], []), [1, 1], ("fits", [0, 1])), True)
        self.assertIs(lets_fit((1, [0, 1], []), [1, 1], ("fits", [0, True])), False)
        self.assertIs(lets_fit((1, [0, 1], []), [1, 1], ("fits", [False, 1])), False)
        self.assertIs(lets_fit((1, [0], [0]), [None, 1], ("none", [1], [1])), True)
        self.assertIs(lets_fit((1, [0], [0]), [None, 1], ("none", [True], [1])), False)
        self.assertIs(lets_fit((1, [0], [0]), [None, 1], ("none", [1], [True])), False)

    def test_anything_is_answered_and_nothing_is_changed(self):
        for size in SIZES:
            length = 2 ** size
            for code in ((size, [0], [0] * (length - 1)), (size, list(range(length)), [])):
                for came in ([0] * length, [1] * length, [None] * length, single(length, 0)):
                    for paper in NO_PAPERS:
                        self.assertFalse(is_fit_paper(code, came, paper))
                        self.assertIs(self.fair(lets_fit, code, came, paper), False, paper)


class RefusalsTest(FairCase):
    def test_no_code_goes_first(self):
        for code in no_codes():
            for came in ([0, 0, 0, 0], None, [2], []):
                self.assertRefused(NoCode, fit_paper, code, came)
                for paper in (("fits", [0, 0]), ("none", [3], [3]), None):
                    self.assertRefused(NoCode, lets_fit, code, came, paper)

    def test_no_came(self):
        for size in SIZES:
            for code in codes_for(size)[:4]:
                for came in no_came(size):
                    self.assertRefused(NoCame, fit_paper, code, came)
                    for paper in (("fits", [0] * len(code[1])), ("none", [0], [0]), None):
                        self.assertRefused(NoCame, lets_fit, code, came, paper)


if __name__ == "__main__":
    unittest.main()
