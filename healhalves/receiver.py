"""A receiver, which hears the signs of a code's word one by one."""

from healhalves.asking import asking_paper
from healhalves.codes import check_code
from healhalves.errors import Clash, NoDeed, NoSign
from healhalves.fitting import first_slip, left_open, marks_of, numbers_of, sign_told, solved, sums_that_came
from healhalves.kinds import check_place, length_of
from healhalves.reading import loss_of
from healhalves.signs import is_sign


class Receiver:
    def __init__(self, code):
        check_code(code)
        self.code = (code[0], list(code[1]), list(code[2]))
        # Tuples of a spot and its sign, in the order in which they were heard.
        self.heard = []

    def hear(self, spot, sign):
        check_place(self.code[0], spot)
        if not is_sign(sign):
            raise NoSign("a sign is the whole number 0 or 1")
        before = self.came()[spot]
        if before is None:
            self.heard.append((spot, sign))
        elif before != sign:
            raise Clash("another sign of this spot was heard")

    def forget(self):
        if self.heard == []:
            raise NoDeed("nothing was heard that is not forgotten")
        self.heard.pop()

    def came(self):
        signs = dict(self.heard)
        return [signs.get(spot) for spot in range(length_of(self.code[0]))]

    def left(self):
        return left_open(self.code, self.came())

    def known(self):
        return known_signs(self.code, self.came())

    def data(self):
        return self.known() if self.left() == 0 else None

    def wants(self):
        if self.left() is None:
            return []
        return asking_paper(self.code, loss_of(self.came()))[1]

    def twin(self):
        other = Receiver(self.code)
        for spot, sign in self.heard:
            other.hear(spot, sign)
        return other


# For each free place the sign that all fitting data have there, else None.
def known_signs(code, came):
    found = solved(code, sums_that_came(code, came))
    if first_slip(code, came, found[1]) is not None:
        return [None] * len(code[1])
    told = found[0]
    free = marks_of(code[1])
    # Of all places that are told each stands in its own sum alone, so any other free place in it can be 0 and 1.
    known = [place for place in told if numbers_of(told[place][0] & free) == [place]]
    return [sign_told(code, came, told[place]) if place in known else None for place in code[1]]
