import itertools
import random
import unittest
from fractions import Fraction

from healhalves.errors import NoCode, NoText
from healhalves.texts import (
    read_came, read_code, read_fraction, read_signs, show_came, show_code, show_fraction, show_signs,
)
from tests.helping import NO_NUMBERS, SIZES, FairCase, all_codes, all_rows, codes_for, no_codes, pair

NO_TEXTS = [thing for thing in NO_NUMBERS if not isinstance(thing, str)] + [0, 1, [0, 1], ["0"], ("1",), b"01", {"0": 1}]
# Put ahead, behind and within a text these make none of it, whatever it writes.
ODD = [" ", "\n", "\t", "\r", "\x00", "2", "a", "O", "l", ".", ",", ";", "_", "+", "x", "\\", "'", "\"", "(", "e"]


def spoilt(text, odd):
    for mark in odd:
        for at in sorted({0, len(text) // 2, len(text)}):
            yield text[:at] + mark + text[at:]


class SignsTest(FairCase):
    def test_by_hand(self):
        self.assertSame(self.fair(show_signs, []), "")
        self.assertSame(self.fair(show_signs, [1, 0, 1, 1]), "1011")
        self.assertSame(self.fair(read_signs, ""), [])
        self.assertSame(self.fair(read_signs, "001"), [0, 0, 1])

    def test_there_and_back(self):
        draw = random.Random("signs")
        rows = [row for length in range(6) for row in all_rows(length)]
        for row in rows + [[draw.randrange(2) for _ in range(length)] for length in range(6, 1001, 71)]:
            text = self.fair(show_signs, row)
            self.assertEqual(len(text), len(row))
            self.assertSame(text, "".join("01"[sign] for sign in row))
            self.assertSame(self.fair(read_signs, text), row)

    def test_texts_that_write_none(self):
        for text in ("", "0", "01", "1" * 32):
            for other in spoilt(text, ODD + ["?", "*", "-", "/", "3", "9"]):
                self.assertRefused(NoText, read_signs, other)

    def test_no_text(self):
        for thing in NO_TEXTS:
            self.assertRefused(NoText, read_signs, thing)


class CameTest(FairCase):
    def test_by_hand(self):
        self.assertSame(self.fair(show_came, []), "")
        self.assertSame(self.fair(show_came, [None, 0, 1, None]), "?01?")
        self.assertSame(self.fair(read_came, ""), [])
        self.assertSame(self.fair(read_came, "?1"), [None, 1])

    def test_there_and_back(self):
        rows = [list(row) for length in range(6) for row in itertools.product([0, 1, None], repeat=length)]
        for row in rows + [[None] * 32, [0] * 33, [None, 1] * 500]:
            text = self.fair(show_came, row)
            self.assertSame(text, "".join("?" if sign is None else str(sign) for sign in row))
            self.assertSame(self.fair(read_came, text), row)

    def test_texts_that_write_none(self):
        for text in ("", "0", "?", "0?1", "?" * 32):
            for other in spoilt(text, ODD + ["*", "-", "/", "None"]):
                self.assertRefused(NoText, read_came, other)

    def test_no_text(self):
        for thing in NO_TEXTS + [[None]]:
            self.assertRefused(NoText, read_came, thing)


class CodeTest(FairCase):
    def test_by_hand(self):
        self.assertSame(self.fair(show_code, (2, [1, 3], [0, 1])), "0*1*")
        self.assertSame(self.fair(read_code, "0*1*"), (2, [1, 3], [0, 1]))
        self.assertSame(self.fair(show_code, (1, [0, 1], [])), "**")
        self.assertSame(self.fair(read_code, "**"), (1, [0, 1], []))
        self.assertSame(self.fair(read_code, "1" * 31 + "*"), (5, [31], [1] * 31))

    def test_there_and_back(self):
        codes = list(all_codes(1)) + list(all_codes(2)) + [code for size in SIZES for code in codes_for(size)]
        for code in codes:
            text = self.fair(show_code, code)
            self.assertEqual([place for place, mark in enumerate(text) if mark == "*"], code[1])
            self.assertEqual([int(mark) for mark in text if mark != "*"], code[2])
            self.assertSame(self.fair(read_code, text), code)

    def test_texts_of_small_lengths(self):
        for length in range(6):
            for marks in itertools.product("01*", repeat=length):
                text = "".join(marks)
                if length in (2, 4) and "*" in text:
                    self.assertSame(show_code(read_code(text)), text)
                else:
                    self.assertRefused(NoText, read_code, text)

    def test_other_lengths(self):
        for length in range(70):
            if length in (2, 4, 8, 16, 32):
                self.assertSame(read_code("*" * length)[1], list(range(length)))
                self.assertRefused(NoText, read_code, "0" * length)
            else:
                self.assertRefused(NoText, read_code, "*" * length)

    def test_texts_that_write_none(self):
        for text in ("*", "*0*", "0*1", "*" * 7, "**", "0*1*", "*" * 31):
            for other in spoilt(text, ODD + ["?", "-", "/"]):
                self.assertRefused(NoText, read_code, other)

    def test_no_text(self):
        for thing in NO_TEXTS + [(1, [0], [1])]:
            self.assertRefused(NoText, read_code, thing)

    def test_no_code(self):
        for thing in no_codes():
            self.assertRefused(NoCode, show_code, thing)


class FractionTest(FairCase):
    def test_by_hand(self):
        for one, text in (
            ((0, 1), "0"), ((1, 1), "1"), ((-1, 1), "-1"), ((1, 2), "1/2"), ((-3, 7), "-3/7"), ((10, 1), "10"),
            ((10, 3), "10/3"), ((1, 10), "1/10"), ((100, 101), "100/101"), ((-20, 1), "-20"),
        ):
            self.assertSame(self.fair(show_fraction, one), text)
            self.assertSame(self.fair(read_fraction, text), one)

    def test_there_and_back(self):
        draw = random.Random("fractions")
        most = 10 ** 60 - 1
        drawn = [Fraction(draw.randrange(-most, most), draw.randrange(1, most)) for _ in range(60)]
        small = [Fraction(top, bottom) for top in range(-13, 14) for bottom in range(1, 14)]
        ends = [Fraction(most), Fraction(-most), Fraction(1, most), Fraction(-1, most), Fraction(most - 1, most)]
        for one in drawn + small + ends:
            self.assertSame(self.fair(show_fraction, pair(one)), str(one))
            self.assertSame(self.fair(read_fraction, str(one)), pair(one))

    def test_small_texts(self):
        """Each text of few marks is read just where it is what its own value is written as."""
        for length in range(5):
            for marks in itertools.product("0123-/", repeat=length):
                text = "".join(marks)
                try:
                    one = Fraction(text)
                except (ValueError, ZeroDivisionError):
                    one = None
                if one is not None and str(one) == text:
                    self.assertSame(read_fraction(text), pair(one))
                else:
                    self.assertRefused(NoText, read_fraction, text)

    def test_texts_that_write_none(self):
        for text in (
            "", "-", "/", "-/", "1/", "/1", "1/1", "0/1", "-1/1", "0/2", "1/0", "0/0", "-0", "-0/1", "-0/3", "00", "01",
            "-01", "1/02", "01/2", "2/4", "4/2", "3/3", "-2/4", "--1", "1-", "1/-2", "-1/-2", "+1", "1/+2", "1//2",
            "1/2/3", "1.5", "0.5", "1e3", "1_0", "1/2 ", " 1/2", "1 /2", "1/ 2", "1/2\n", "\n1", "1\n", "0x1", "1/2/",
            "10/100", "15/35", "one", "1,2", "\u0661", "1/\u0662",
        ):
            self.assertRefused(NoText, read_fraction, text)
        for text in ("1", "0", "-7", "1/2", "-13/40"):
            for other in spoilt(text, [mark for mark in ODD if mark != "2"]):
                self.assertRefused(NoText, read_fraction, other)

    def test_sixty_figures_and_sixty_one(self):
        most, more = "9" * 60, "1" + "0" * 60
        self.assertSame(read_fraction(most), (10 ** 60 - 1, 1))
        self.assertSame(read_fraction("-" + most), (1 - 10 ** 60, 1))
        self.assertSame(read_fraction("1/" + most), (1, 10 ** 60 - 1))
        self.assertSame(read_fraction("-" + "9" * 59 + "8/" + most), (2 - 10 ** 60, 10 ** 60 - 1))
        for text in (more, "-" + more, "1/" + more, more + "/7", "-1/" + more, "9" * 61, "7/" + "9" * 61, "9" * 2000):
            self.assertRefused(NoText, read_fraction, text)

    def test_no_text(self):
        for thing in NO_TEXTS + [(1, 2), (0, 1)]:
            self.assertRefused(NoText, read_fraction, thing)


if __name__ == "__main__":
    unittest.main()
