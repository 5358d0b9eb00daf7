"""A desk, which keeps codes with their receivers by names and answers rows of words."""

from healhalves.choosing import best_places
from healhalves.codes import least_weight, word_for
from healhalves.errors import NoName, NoRow, NoText
from healhalves.fitting import all_that_fit
from healhalves.fractions import is_share
from healhalves.kinds import length_of, size_of_length
from healhalves.reading import read_one_by_one
from healhalves.receiver import Receiver
from healhalves.shares import shares_of
from healhalves.texts import is_made_of, read_code, read_fraction, read_number, read_signs
from healhalves.texts import show_came, show_code, show_fraction, show_signs

# What stands behind the first word of each row. The last part of `best` may stand there more often.
PARTS = {
    "code": ("name", "code"),
    "best": ("name", "number", "share"),
    "word": ("name", "data"),
    "hear": ("name", "number", "sign"),
    "forget": ("name",),
    "came": ("name",),
    "known": ("name",),
    "left": ("name",),
    "wants": ("name",),
    "read": ("name",),
    "fits": ("name",),
    "weight": ("name",),
    "shares": ("name", "share"),
    "copy": ("name", "name"),
}
SMALL_LETTERS = "abcdefghijklmnopqrstuvwxyz"
MOST_LETTERS = 8
MOST_FIGURES_HERE = 3


class Desk:
    def __init__(self):
        # Tuples of a code and its receiver, by their names.
        self.standing = {}

    def say(self, row):
        things = read_row(row)
        deed = things[0]
        name = things[1]
        if deed == "code":
            return self.put(name, things[2], Receiver(things[2]), "ok")
        if deed == "best":
            code = best_code(things[3:], things[2])
            return self.put(name, code, Receiver(code), show_code(code))
        if deed == "copy":
            other = self.entry(things[2])
            return self.put(name, other[0], other[1].twin(), "ok")
        own = self.entry(name)
        return answer_of(deed, own[0], own[1], things[2:])

    def put(self, name, code, receiver, answer):
        self.standing[name] = (code, receiver)
        return answer

    def entry(self, name):
        if name not in self.standing:
            raise NoName("no code stands by this name")
        return self.standing[name]


# The row's first word, and what the words behind it write.
def read_row(row):
    if not isinstance(row, str):
        raise NoRow("a row is a text")
    words = row.split(" ")
    behind = words[1:]
    parts = parts_behind(words[0], len(behind))
    try:
        things = read_parts(parts, behind)
    except NoText as error:
        raise NoRow("a word of this row is written otherwise than it should be") from error
    return [words[0]] + things


def parts_behind(deed, many):
    if deed not in PARTS:
        raise NoRow("no row begins with this word")
    parts = PARTS[deed]
    if deed == "best" and many > len(parts):
        parts = parts + ("share",) * (many - len(parts))
    if len(parts) != many:
        raise NoRow("this row has a word too few or too many")
    return parts


def read_parts(parts, words):
    return [read_part(part, word) for part, word in zip(parts, words)]


def read_part(part, word):
    if part == "name":
        return read_name(word)
    if part == "code":
        return read_code(word)
    if part == "number":
        return read_number(word, MOST_FIGURES_HERE)
    if part == "sign":
        return read_sign(word)
    if part == "data":
        return read_data(word)
    return read_share(word)


def read_name(word):
    if not is_made_of(word, SMALL_LETTERS) or not 1 <= len(word) <= MOST_LETTERS:
        raise NoText("a name is one to eight small letters")
    return word


def read_sign(word):
    if len(word) != 1:
        raise NoText("a sign is 0 or 1")
    return read_signs(word)[0]


def read_data(word):
    if word == "":
        raise NoText("data have one sign at least")
    return read_signs(word)


def read_share(word):
    share = read_fraction(word)
    if not is_share(share):
        raise NoText("a share is a fraction from 0 to 1, of at most twelve figures above and below")
    return share


def best_code(road, many):
    free = best_places(road, many)
    return (size_of_length(len(road)), free, [0] * (len(road) - many))


def answer_of(deed, code, receiver, things):
    if deed == "word":
        return show_signs(word_for(code, things[0]))
    if deed == "weight":
        return str(least_weight(code)[0])
    if deed == "shares":
        return shares_text(code, things[0])
    if deed == "hear":
        receiver.hear(things[0], things[1])
        return "ok"
    if deed == "forget":
        receiver.forget()
        return "ok"
    return told_of(deed, code, receiver)


def told_of(deed, code, receiver):
    if deed == "came":
        return show_came(receiver.came())
    if deed == "known":
        return show_came(receiver.known())
    if deed == "left":
        left = receiver.left()
        return "none" if left is None else str(left)
    if deed == "wants":
        return listed([str(spot) for spot in receiver.wants()])
    if deed == "fits":
        return listed([show_signs(data) for data in all_that_fit(code, receiver.came())])
    return reading_text(read_one_by_one(code, receiver.came()))


def shares_text(code, share):
    shares = shares_of([share] * length_of(code[0]))
    return listed([show_fraction(shares[place]) for place in code[1]])


def reading_text(told):
    word = told[0]
    rest = show_signs(told[1]) if word == "read" else str(told[1])
    return f"{word} {rest}"


def listed(words):
    return "-" if words == [] else " ".join(words)
