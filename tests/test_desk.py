import random
import unittest
from fractions import Fraction

from healhalves.choosing import best_places
from healhalves.codes import least_weight, word_for
from healhalves.desk import Desk
from healhalves.errors import (
    Clash, HealError, NoData, NoDeed, NoName, NoNumber, NoPlace, NoRoad, NoRow, TooMany,
)
from healhalves.fitting import all_that_fit, how_many_fit
from healhalves.reading import read_one_by_one
from healhalves.receiver import Receiver
from healhalves.shares import shares_of
from tests.helping import NO_NUMBERS, SIZES, FairCase, codes_for, data_for, few_free, roads_for

DEEDS = ("forget", "came", "known", "left", "wants", "read", "fits", "weight")
NAMES = ("a", "b", "word", "zzzzzzzz", "none")


def signs(row):
    return "".join("?" if sign is None else str(sign) for sign in row)


def code_text(code):
    fixed = list(code[2])
    return "".join("*" if place in code[1] else str(fixed.pop(0)) for place in range(2 ** code[0]))


def share_text(share):
    return str(Fraction(*share))


def listed(words):
    return " ".join(words) if words else "-"


class Model:
    """A desk as the functions tell it: what stands by each name is a code and what was heard, in order."""

    def __init__(self):
        self.standing = {}

    def receiver(self, name):
        code, heard = self.standing[name]
        one = Receiver(code)
        for spot, sign in heard:
            one.hear(spot, sign)
        return one

    def tell(self, deed, name):
        code, heard = self.standing[name]
        one = self.receiver(name)
        if deed == "came":
            return signs(one.came())
        if deed == "known":
            return signs(one.known())
        if deed == "left":
            return "none" if one.left() is None else str(one.left())
        if deed == "wants":
            return listed([str(spot) for spot in one.wants()])
        if deed == "read":
            told = read_one_by_one(code, one.came())
            return told[0] + " " + (signs(told[1]) if told[0] == "read" else str(told[1]))
        if deed == "fits":
            return listed([signs(data) for data in all_that_fit(code, one.came())])
        return str(least_weight(code)[0])


def state(desk, names=NAMES):
    """All that a desk tells of what stands there."""
    told = []
    for name in names:
        for deed in ("came", "known", "left", "wants", "read", "fits", "weight", "shares"):
            row = f"{deed} {name} 1/3" if deed == "shares" else f"{deed} {name}"
            try:
                told.append(desk.say(row))
            except HealError as error:
                told.append(type(error).__name__)
    return told


def filled():
    desk = Desk()
    for row in ("code a 0*1*", "hear a 0 0", "code word *0", "best zzzzzzzz 4 1/2 1/2 1/2 1/2 1/2 1/2 1/2 1/2", "hear word 1 1"):
        desk.say(row)
    return desk


class RowsTest(FairCase):
    def check(self, desk, *pairs):
        for row, wanted in pairs:
            self.assertSame(desk.say(row), wanted)

    def test_by_hand(self):
        self.check(
            Desk(), ("code a 0*1*", "ok"), ("word a 10", "0110"), ("weight a", "2"), ("came a", "????"), ("left a", "2"),
            ("known a", "??"), ("read a", "lost 1"), ("fits a", "00 01 10 11"), ("hear a 0 0", "ok"), ("left a", "1"),
            ("fits a", "01 10"), ("hear a 3 0", "ok"), ("came a", "0??0"), ("known a", "10"), ("left a", "0"),
            ("wants a", "-"), ("fits a", "10"), ("hear a 1 1", "ok"), ("hear a 2 1", "ok"), ("read a", "read 10"),
            ("forget a", "ok"), ("hear a 2 0", "ok"), ("read a", "slip 0"), ("left a", "none"), ("known a", "??"),
            ("fits a", "-"), ("wants a", "-"), ("came a", "0100"), ("forget a", "ok"), ("came a", "01?0"),
        )

    def test_best_by_hand(self):
        self.check(
            Desk(), ("best b 4 1/2 1/2 1/2 1/2 1/2 1/2 1/2 1/2", "000*0***"), ("weight b", "4"),
            ("shares b 1/2", "81/256 49/256 31/256 1/256"),
            ("best b 1 1/2 1/3", "0*"), ("shares b 0", "0"), ("shares b 1", "1"), ("shares b 1/10", "1/100"),
            ("best b 2 0 1", "**"), ("shares b 1/2", "3/4 1/4"), ("word b 11", "01"),
        )

    def test_a_code_in_the_stead_of_another_one_has_a_new_receiver(self):
        self.check(
            Desk(), ("code a 0*", "ok"), ("hear a 1 1", "ok"), ("code a 0*", "ok"), ("came a", "??"), ("hear a 0 1", "ok"),
            ("best a 1 1/2 1/2", "0*"), ("came a", "??"), ("code a ****", "ok"), ("came a", "????"), ("left a", "4"),
        )

    def test_copy(self):
        desk = Desk()
        self.check(
            desk, ("code a 0*1*", "ok"), ("hear a 2 1", "ok"), ("hear a 0 0", "ok"), ("copy b a", "ok"),
            ("came b", "0?1?"), ("weight b", "2"), ("forget b", "ok"), ("came b", "??1?"), ("came a", "0?1?"),
            ("hear a 3 0", "ok"), ("came b", "??1?"), ("forget b", "ok"), ("came b", "????"),
        )
        self.assertRefused(NoDeed, desk.say, "forget b")
        self.check(
            desk, ("copy a a", "ok"), ("came a", "0?10"), ("forget a", "ok"), ("came a", "0?1?"), ("code c **", "ok"),
            ("copy a c", "ok"), ("came a", "??"), ("copy c b", "ok"), ("word c 10", "0110"), ("code b 1*", "ok"),
            ("word c 10", "0110"), ("came c", "????"),
        )

    def test_the_best_places_of_each_size(self):
        for size in SIZES:
            for road in roads_for(size)[::3]:
                desk = Desk()
                for many in sorted({1, 2 ** size // 2, 2 ** size - 1, 2 ** size}):
                    free = best_places(road, many)
                    code = (size, free, [0] * (2 ** size - many))
                    row = " ".join(["best", "some", str(many)] + [share_text(share) for share in road])
                    self.assertSame(desk.say(row), code_text(code))
                    data = data_for(code)[-1]
                    self.assertSame(desk.say("word some " + signs(data)), signs(word_for(code, data)))

    def test_words_weights_and_shares_of_each_size(self):
        for size in SIZES:
            desk = Desk()
            for code in codes_for(size):
                self.assertSame(desk.say("code x " + code_text(code)), "ok")
                for data in data_for(code):
                    self.assertSame(desk.say("word x " + signs(data)), signs(word_for(code, data)))
                self.assertSame(desk.say("weight x"), str(least_weight(code)[0]))
                for share in ((0, 1), (1, 1), (1, 3), (123456789011, 999999999989)):
                    shares = shares_of([share] * 2 ** size)
                    wanted = " ".join(share_text(shares[place]) for place in code[1])
                    self.assertSame(desk.say("shares x " + share_text(share)), wanted)

    def test_long_runs_against_the_functions(self):
        draw = random.Random("desk")
        for run in range(30):
            desk, model = Desk(), Model()
            for _ in range(60):
                self.step(draw, desk, model)

    def step(self, draw, desk, model):
        name, size = draw.choice(NAMES), draw.choice([1, 2, 2, 3, 4])
        deed = draw.choice(["code", "best", "copy", "word", "shares"] + ["hear"] * 8 + list(DEEDS))
        standing = model.standing
        if deed == "code":
            code = draw.choice(codes_for(size))
            self.assertSame(desk.say(f"code {name} {code_text(code)}"), "ok")
            standing[name] = (code, [])
        elif deed == "best":
            road = [draw.choice([(0, 1), (1, 2), (1, 3), (1, 1)]) for _ in range(2 ** size)]
            many = draw.randrange(1, 2 ** size + 1)
            code = (size, best_places(road, many), [0] * (2 ** size - many))
            row = f"best {name} {many} " + " ".join(share_text(share) for share in road)
            self.assertSame(desk.say(row), code_text(code))
            standing[name] = (code, [])
        elif deed == "copy":
            other = draw.choice(NAMES)
            if other in standing:
                self.assertSame(desk.say(f"copy {name} {other}"), "ok")
                standing[name] = (standing[other][0], list(standing[other][1]))
            else:
                self.assertRefused(NoName, desk.say, f"copy {name} {other}")
        elif name not in standing:
            rows = {"word": f"word {name} 01", "shares": f"shares {name} 1/2", "hear": f"hear {name} 0 0"}
            self.assertRefused(NoName, desk.say, rows.get(deed, f"{deed} {name}"))
        else:
            self.step_by(draw, desk, model, deed, name)

    def step_by(self, draw, desk, model, deed, name):
        code, heard = model.standing[name]
        if deed == "word":
            data = draw.choice(data_for(code))
            self.assertSame(desk.say(f"word {name} {signs(data)}"), signs(word_for(code, data)))
        elif deed == "shares":
            shares = shares_of([(2, 7)] * 2 ** code[0])
            self.assertSame(desk.say(f"shares {name} 2/7"), " ".join(share_text(shares[k]) for k in code[1]))
        elif deed == "hear":
            spot, sign = draw.randrange(2 ** code[0]), draw.randrange(2)
            if dict(heard).get(spot, sign) != sign:
                self.assertRefused(Clash, desk.say, f"hear {name} {spot} {sign}")
            else:
                self.assertSame(desk.say(f"hear {name} {spot} {sign}"), "ok")
                if spot not in dict(heard):
                    heard.append((spot, sign))
        elif deed == "forget":
            if heard:
                self.assertSame(desk.say(f"forget {name}"), "ok")
                heard.pop()
            else:
                self.assertRefused(NoDeed, desk.say, f"forget {name}")
        elif deed == "fits" and how_many_fit(code, model.receiver(name).came()) > 256:
            self.assertRefused(TooMany, desk.say, f"fits {name}")
        else:
            self.assertSame(desk.say(f"{deed} {name}"), model.tell(deed, name))

    def test_two_desks_beside_one_another(self):
        one, other = Desk(), Desk()
        one.say("code a 0*1*")
        self.assertRefused(NoName, other.say, "came a")
        other.say("code a **")
        one.say("hear a 3 1")
        other.say("hear a 1 0")
        self.check(one, ("came a", "???1"), ("left a", "1"))
        self.check(other, ("came a", "?0"), ("left a", "1"))
        other.say("forget a")
        self.check(one, ("came a", "???1"))

    def test_asking_changes_nothing(self):
        desk = filled()
        before = state(desk)
        self.assertSame(state(desk), before)

    def test_names_of_one_to_eight_letters(self):
        desk = Desk()
        for name in ("a", "z", "ab", "code", "best", "abcdefgh", "zzzzzzzz", "hear"):
            self.check(desk, (f"code {name} *1", "ok"), (f"came {name}", "??"), (f"hear {name} 0 1", "ok"))
        self.check(desk, ("came a", "1?"), ("came code", "1?"))


def no_words(word):
    """Ways in which a word is written otherwise, whatever is wanted there."""
    return ["", " ", "\n", word + "\n", "\n" + word, word + "\t", "\t" + word, "_", "A", "(", word + ",", "+" + word, "\\"]


class NoRowTest(FairCase):
    def no_row(self, *rows):
        desk = filled()
        before = state(desk)
        for row in rows:
            self.assertRefused(NoRow, desk.say, row)
        self.assertSame(state(desk), before)

    def test_no_text(self):
        self.no_row(*[thing for thing in NO_NUMBERS if not isinstance(thing, str)])
        self.no_row(0, 1, ["came a"], ("came", "a"), ["came", "a"], b"came a", {"came": "a"})

    def test_no_words_and_other_words(self):
        self.no_row("", " ", "  ", "\n", "a", "codes a *0", "Code a *0", "CODE a *0", "cod a *0", "say a", "data a", "twin a")
        self.no_row("code\n a *0", "-", "came-a", "came\ta", "came\na", "words a 1", "share a 1/2", "weights a", "none", "ok")

    def test_a_word_too_few_or_too_many(self):
        whole = ("code a *0", "best a 1 1/2 1/2", "word a 10", "hear a 1 0", "shares a 1/2", "copy b a")
        for row in whole + tuple(f"{deed} a" for deed in DEEDS):
            words = row.split(" ")
            for many in range(1, len(words)):
                if not row.startswith("best") or many < 4:
                    self.no_row(" ".join(words[:many]))
            if not row.startswith("best"):
                self.no_row(row + " a", row + " 1", row + " 1/2", row + " *0")
            for at in range(len(words) + 1):
                self.no_row(" ".join(words[:at] + [""] + words[at:]))
            for at in range(len(words)):
                self.no_row(" ".join(words[:at] + [""] + words[at + 1:]))
            self.no_row(" " + row, row + " ", row.replace(" ", "  ", 1), row + "\n", "\n" + row, row.replace(" ", "\t", 1))

    def test_names_written_otherwise(self):
        for name in no_words("a") + ["abcdefghi", "aB", "Aa", "a1", "1", "a-b", "a_b", "*", "\u00e4", "a" * 100, "0"]:
            self.no_row(f"code {name} *0", f"best {name} 1 1/2 1/2", f"word {name} 10", f"hear {name} 1 0")
            self.no_row(f"shares {name} 1/2", f"copy {name} a", f"copy b {name}", f"copy {name} {name}")
            self.no_row(*[f"{deed} {name}" for deed in DEEDS])

    def test_codes_written_otherwise(self):
        for text in no_words("*0") + ["*", "0", "01", "00", "*0*", "0" * 32, "*" * 31, "*" * 33, "*2", "*?", "**0*a", "* 0"]:
            self.no_row(f"code a {text}", f"code new {text}")

    def test_data_written_otherwise(self):
        for text in no_words("10") + ["12", "1?", "*1", "1/2", "-1", "a", "1 0", "0b1"]:
            self.no_row(f"word a {text}", f"word nobody {text}")

    def test_signs_written_otherwise(self):
        for text in no_words("1") + ["2", "00", "01", "10", "?", "-1", "*", "-0", "1/1"]:
            self.no_row(f"hear a 1 {text}", f"hear nobody 1 {text}", f"hear a 99 {text}")

    def test_numbers_written_otherwise(self):
        for text in no_words("1") + ["01", "00", "000", "0001", "1000", "9999", "-1", "-0", "1.0", "1/2", "1e1", "?", "1_0"]:
            self.no_row(f"hear a {text} 1", f"hear nobody {text} 1", f"best a {text} 1/2 1/2", f"best a {text} 1/2")

    def test_shares_written_otherwise(self):
        things = ["2/4", "1/1", "0/1", "2", "3/2", "-1/2", "-0", "00", "01", "1/02", "1/0", "0/0", "1/2/3", "0.5", "1/", "/2"]
        things += ["1/1000000000000", "999999999999/1000000000000", "1000000000000/1000000000001", "-1", "1e0", "?", "1/-2"]
        for text in no_words("1/2") + things:
            self.no_row(f"shares a {text}", f"shares nobody {text}", f"best a 1 {text} 1/2", f"best a 1 1/2 {text}")
            self.no_row(f"best a 1 {text}", f"best a 9 1/2 1/2 {text}", f"best a 0 1/2 1/2 {text} 1/2")

    def test_shares_of_twelve_figures_are_read(self):
        desk = Desk()
        self.assertSame(desk.say("best a 1 999999999998/999999999999 1/999999999999"), "0*")
        self.assertSame(desk.say("shares a 999999999998/999999999999"), str(Fraction(999999999998, 999999999999) ** 2))


class RefusalsTest(FairCase):
    def refuse(self, refusal, *rows):
        desk = filled()
        before = state(desk)
        for row in rows:
            self.assertRefused(refusal, desk.say, row)
        self.assertSame(state(desk), before)

    def test_no_name(self):
        for name in ("b", "aa", "nobody", "words", "zzzzzzz"):
            self.refuse(NoName, *[f"{deed} {name}" for deed in DEEDS])
            self.refuse(NoName, f"word {name} 10", f"hear {name} 0 0", f"shares {name} 1/2", f"copy a {name}", f"copy c {name}")
            # Then alone would be asked whether the data and the spot are any.
            self.refuse(NoName, f"word {name} 1", f"hear {name} 999 0", f"copy {name} {name}")

    def test_no_name_is_wanted_of_what_is_put_there(self):
        desk = Desk()
        self.assertSame(desk.say("code a 1*"), "ok")
        self.assertSame(desk.say("best b 1 0 1"), "0*")
        self.assertSame(desk.say("copy c a"), "ok")

    def test_nothing_stands_on_a_new_desk(self):
        for row in [f"{deed} a" for deed in DEEDS] + ["word a 1", "hear a 0 0", "shares a 0", "copy a a"]:
            self.assertRefused(NoName, Desk().say, row)

    def test_what_is_refused_puts_nothing_by_a_name(self):
        desk = Desk()
        for refusal, row in (
            (NoRow, "code a 01"), (NoRoad, "best a 1 1/2"), (NoNumber, "best a 3 1/2 1/2"), (NoName, "copy a b"),
        ):
            self.assertRefused(refusal, desk.say, row)
            self.assertRefused(NoName, desk.say, "came a")

    def test_no_data(self):
        self.refuse(NoData, "word a 1", "word a 101", "word word 00", "word zzzzzzzz 111", "word a " + "1" * 1000)

    def test_no_place_goes_ahead_of_clash(self):
        self.refuse(NoPlace, "hear a 4 0", "hear a 5 1", "hear a 32 0", "hear a 999 0", "hear word 2 1", "hear zzzzzzzz 8 0")

    def test_clash(self):
        self.refuse(Clash, "hear a 0 1", "hear word 1 0")

    def test_no_deed(self):
        self.refuse(NoDeed, "forget zzzzzzzz")
        desk = filled()
        self.assertSame(desk.say("hear a 0 0"), "ok")
        self.assertSame(desk.say("forget a"), "ok")
        self.assertRefused(NoDeed, desk.say, "forget a")

    def test_no_road_goes_ahead_of_no_number(self):
        for many in range(1, 70):
            if many not in (2, 4, 8, 16, 32):
                shares = " ".join(["1/2"] * many)
                self.refuse(NoRoad, f"best a 1 {shares}", f"best b 0 {shares}", f"best a 999 {shares}")

    def test_no_number(self):
        for size in SIZES:
            shares = " ".join(["1/2"] * 2 ** size)
            self.refuse(NoNumber, f"best a 0 {shares}", f"best new {2 ** size + 1} {shares}", f"best a 999 {shares}")

    def test_too_many(self):
        desk = Desk()
        desk.say("code a " + "*" * 9 + "0" * 7)
        desk.say("code b " + "*" * 8)
        self.assertRefused(TooMany, desk.say, "fits a")
        self.assertSame(desk.say("left a"), "9")
        self.assertEqual(len(desk.say("fits b").split(" ")), 256)
        desk.say("hear a 0 1")
        self.assertEqual(len(desk.say("fits a").split(" ")), 256)

    def test_wanted_spots_of_the_greatest_code(self):
        desk = Desk()
        desk.say("code a " + "*" * 32)
        self.assertSame(desk.say("wants a"), " ".join(str(spot) for spot in range(32)))
        for spot in range(32):
            self.assertSame(desk.say(f"hear a {spot} {spot % 2}"), "ok")
        self.assertSame(desk.say("wants a"), "-")
        self.assertSame(desk.say("fits a"), desk.say("known a"))

    def test_fits_of_few_free_places(self):
        for size in SIZES:
            for code in few_free(size, 8, 4):
                desk = Desk()
                desk.say("code a " + code_text(code))
                for spot, sign in enumerate(word_for(code, data_for(code)[-1])[:3]):
                    desk.say(f"hear a {spot} {sign}")
                came = [None if mark == "?" else int(mark) for mark in desk.say("came a")]
                self.assertSame(desk.say("fits a"), listed([signs(data) for data in all_that_fit(code, came)]))


if __name__ == "__main__":
    unittest.main()
