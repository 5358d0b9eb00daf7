"""Rows of signs, what came, codes and fractions, written and read back."""

from healhalves.codes import check_code, fixed_signs
from healhalves.errors import NoText
from healhalves.fractions import is_fraction
from healhalves.kinds import is_word_length, length_of, size_of_length

MOST_FIGURES = 60


def show_signs(row):
    return "".join([str(sign) for sign in row])


def show_came(came):
    return "".join(["?" if sign is None else str(sign) for sign in came])


def show_code(code):
    check_code(code)
    fixed = fixed_signs(code)
    return "".join([str(fixed[place]) if place in fixed else "*" for place in range(length_of(code[0]))])


def show_fraction(one):
    top = one[0]
    bottom = one[1]
    return f"{top}" if bottom == 1 else f"{top}/{bottom}"


def is_made_of(text, marks):
    return isinstance(text, str) and all([mark in marks for mark in text])


def read_signs(text):
    if not is_made_of(text, "01"):
        raise NoText("a row of signs is written with 0 and 1")
    return [int(mark) for mark in text]


def read_came(text):
    if not is_made_of(text, "01?"):
        raise NoText("what came is written with 0, 1 and ?")
    return [None if mark == "?" else int(mark) for mark in text]


def read_code(text):
    if not is_made_of(text, "01*") or not is_word_length(len(text)) or "*" not in text:
        raise NoText("a code is written with 2, 4, 8, 16 or 32 of 0, 1 and *, one * at least")
    free = [place for place, mark in enumerate(text) if mark == "*"]
    return (size_of_length(len(text)), free, [int(mark) for mark in text if mark != "*"])


def is_figures(text, most):
    if not is_made_of(text, "0123456789") or not 1 <= len(text) <= most:
        return False
    return text == "0" or text[0] != "0"


# A whole number from 0 on, of at most so many figures.
def read_number(text, most):
    if not is_figures(text, most):
        raise NoText("a number is written in figures without a nought ahead")
    return int(text)


def read_fraction(text):
    if not isinstance(text, str):
        raise NoText("a fraction is read of a text")
    below = text.startswith("-")
    parts = (text[1:] if below else text).partition("/")
    top = read_number(parts[0], MOST_FIGURES)
    bottom = 1 if parts[1] == "" else read_number(parts[2], MOST_FIGURES)
    if below and top == 0:
        raise NoText("0 has no sign ahead")
    if (bottom == 1 and parts[1] != "") or not is_fraction((top, bottom)):
        raise NoText("a fraction is written in lowest terms, its bottom only where it is no 1")
    return (-top if below else top, bottom)
