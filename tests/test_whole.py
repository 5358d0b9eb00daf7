"""What is promised over the whole program: all parts of it together."""

import importlib
import inspect
import random
import unittest
from fractions import Fraction

from healhalves.asking import asking_paper, open_by
from healhalves.choosing import best_places
from healhalves.codes import least_weight, word_for
from healhalves.desk import Desk
from healhalves.failing import bounds_of, failing_of
from healhalves.fitpapers import fit_paper, lets_fit
from healhalves.fitting import all_that_fit, how_many_fit
from healhalves.lookers import lets_paper
from healhalves.losses import places_lost
from healhalves.orders import lets_order, order_paper
from healhalves.papers import paper_on
from healhalves.plans import best_by, came_by, plan_for, road_by, sent_by, shares_by
from healhalves.reading import read_one_by_one
from healhalves.receiver import Receiver
from healhalves.seals import all_that_hold, plain_of, sealed
from healhalves.shares import shares_of
from healhalves.texts import read_came, read_code, read_signs, show_came, show_code, show_signs
from tests.helping import SIZES, FairCase, came_with, codes_for, data_for, losses_drawn, losses_for, roads_for

INTERFACE = {
    "signs": "is_sign(thing) sum_of(signs) added(one,other)",
    "words": "word_of(core) reaches(size,place,spot)",
    "nets": "is_net(size,thing) run(size,net,row) turned_net(size,net) halving_net(size)",
    "making": "makes_words(size,net) unlike_core(size,net)",
    "losses": "halves_lost(size,loss) places_lost(size,loss)",
    "lookers": "lets_paper(size,loss,place,paper)",
    "papers": "paper_on(size,loss,place)",
    "fractions": "is_fraction(thing) is_share(thing) fraction(top,bottom) plus(one,other) minus(one,other) "
                 "times(one,other) is_less(one,other)",
    "shares": "chance_of(road,loss) halves_of(road) shares_of(road)",
    "counts": "counts_of(size,place)",
    "steps": "is_step(size,one,other) turn_of(size,one,other) turned_loss(size,turn,loss)",
    "orders": "lets_order(size,worse,better,paper) order_paper(size,worse,better)",
    "codes": "is_code(thing) core_for(code,data) word_for(code,data) data_of(code,core) least_weight(code)",
    "choosing": "best_places(road,many)",
    "reading": "read_one_by_one(code,came)",
    "failing": "failing_of(code,road) bounds_of(code,road)",
    "fitting": "how_many_fit(code,came) all_that_fit(code,came)",
    "fitpapers": "lets_fit(code,came,paper) fit_paper(code,came)",
    "asking": "open_by(code,loss) asking_paper(code,loss)",
    "asklookers": "lets_asking(code,loss,paper)",
    "seals": "holds(code,seals,data) sealed(code,seals,plain) plain_of(code,seals,data) all_that_hold(code,seals,came)",
    "plans": "is_plan(thing) sent_by(plan,word) plan_for(size,length) came_by(plan,things) road_by(plan,shares) "
             "shares_by(plan,shares) best_by(plan,shares,many)",
    "receiver": "Receiver(code)",
    "texts": "show_signs(row) show_came(came) show_code(code) show_fraction(one) read_signs(text) read_came(text) "
             "read_code(text) read_fraction(text)",
    "desk": "Desk()",
}
METHODS = {
    "receiver.Receiver": "hear(self,spot,sign) forget(self) came(self) left(self) known(self) data(self) wants(self) "
                         "twin(self)",
    "desk.Desk": "say(self,row)",
}


class InterfaceTest(unittest.TestCase):
    def check(self, owner, rows):
        for row in rows.split(" "):
            name, _, arguments = row.rstrip(")").partition("(")
            told = list(inspect.signature(getattr(owner, name)).parameters)
            self.assertEqual(told, [argument for argument in arguments.split(",") if argument], row)

    def test_each_function_stands_in_its_file_with_its_arguments(self):
        for name, rows in INTERFACE.items():
            self.check(importlib.import_module("healhalves." + name), rows)

    def test_each_method_stands_in_its_class(self):
        for name, rows in METHODS.items():
            file, _, owner = name.partition(".")
            self.check(getattr(importlib.import_module("healhalves." + file), owner), rows)


class WayTest(FairCase):
    """From plain signs over a road to a receiver and back."""

    def test_from_plain_signs_to_plain_signs(self):
        draw = random.Random("way")
        for size in SIZES:
            for _ in range(25):
                length = draw.randrange(1, 3 * 2 ** size)
                plan = plan_for(size, length)
                shares = [draw.choice([(1, 10), (1, 4), (1, 2)]) for _ in range(length)]
                places = 2 ** size - len(plan[2])
                free = best_by(plan, shares, draw.randrange(1, places + 1))
                code = (size, free, [0] * (2 ** size - len(free)))
                lasts = draw.sample(range(len(free)), draw.randrange(min(4, len(free)) + 1))
                seals = [sorted(draw.sample(range(last), last // 2)) + [last] for last in lasts]
                plain = [draw.randrange(2) for _ in range(len(free) - len(seals))]
                data = sealed(code, seals, plain)
                sent = sent_by(plan, word_for(code, data))
                self.assertEqual(len(sent), length)
                came = came_by(plan, [None if draw.randrange(4) == 0 else sign for sign in sent])
                self.check_come(code, seals, came, data)
                self.assertSame(plain_of(code, seals, data), plain)

    def check_come(self, code, seals, came, data):
        told = read_one_by_one(code, came)
        many = how_many_fit(code, came)
        if told[0] == "read":
            self.assertSame(told, ("read", data))
            self.assertSame(many, 1)
        self.assertNotEqual(told[0], "slip")
        self.assertIs(lets_fit(code, came, ("fits", data)), True)
        self.assertEqual(fit_paper(code, came)[0], "fits")
        if many <= 256:
            self.assertIn(data, all_that_fit(code, came))
            self.assertIn(data, all_that_hold(code, seals, came))
        self.check_receiver(code, came, data)

    def check_receiver(self, code, came, data):
        word = word_for(code, data)
        one, desk = Receiver(code), Desk()
        desk.say("code x " + show_code(code))
        for spot, sign in enumerate(came):
            if sign is not None:
                one.hear(spot, sign)
                desk.say(f"hear x {spot} {sign}")
        self.assertEqual(len(one.wants()), open_by(code, [spot for spot, sign in enumerate(came) if sign is None]))
        self.assertSame(read_came(desk.say("came x")), came)
        for spot in one.wants():
            one.hear(spot, word[spot])
            desk.say(f"hear x {spot} {word[spot]}")
        self.assertSame(one.data(), data)
        self.assertSame(desk.say("fits x"), show_signs(data))
        self.assertSame(read_signs(desk.say("known x")), data)

    def test_texts_between(self):
        for size in SIZES:
            for code in codes_for(size):
                for data in data_for(code)[-2:]:
                    again = read_code(show_code(code))
                    word = read_signs(show_signs(word_for(again, read_signs(show_signs(data)))))
                    came = read_came(show_came(came_with(word, losses_drawn(size, 1)[-1])))
                    self.assertIs(lets_fit(again, came, ("fits", data)), True)


class PromiseTest(FairCase):
    def test_by_every_loss_as_many_places_as_spots_and_a_paper_on_each(self):
        for size in SIZES:
            for loss in losses_for(size)[-24:]:
                lost = places_lost(size, loss)
                self.assertEqual(len(lost), len(loss))
                for place in range(2 ** size):
                    paper = paper_on(size, loss, place)
                    self.assertEqual(paper[0], "open" if place in lost else "told")
                    self.assertIs(lets_paper(size, loss, place, paper), True)

    def test_all_shares_together_are_as_much_as_the_roads_of_plans_too(self):
        draw = random.Random("together")
        for size in SIZES:
            for length in (1, 2 ** size - 1, 2 ** size, 2 ** size + 1, 2 * 2 ** size):
                plan = plan_for(size, length)
                shares = [draw.choice([(0, 1), (1, 2), (2, 3), (1, 1)]) for _ in range(length)]
                road = sum(Fraction(*share) for share in road_by(plan, shares))
                self.assertEqual(sum(Fraction(*share) for share in shares_by(plan, shares)), road)

    def test_on_a_road_of_one_share_they_part(self):
        for share in ((1, 10), (1, 2), (2, 3)):
            parts = []
            for size in SIZES:
                shares = [Fraction(*one) for one in shares_of([share] * 2 ** size)]
                parts.append(sum(one * (1 - one) for one in shares) / 2 ** size)
            self.assertTrue(all(later < earlier for earlier, later in zip(parts, parts[1:])))

    def test_best_places_and_better_ones(self):
        for size in SIZES:
            for share in ((1, 10), (1, 2)):
                best = best_places([share] * 2 ** size, 2 ** size // 2)
                for place in best:
                    for other in range(2 ** size):
                        paper = order_paper(size, place, other)
                        self.assertIs(lets_order(size, place, other, paper), True)
                        self.assertTrue(paper[0] == "ones" or other in best)

    def test_read_just_where_no_free_place_is_lost_and_failing_between_its_bounds(self):
        for size in (1, 2, 3):
            road = roads_for(size)[-8]
            for code in codes_for(size)[:8]:
                word = word_for(code, data_for(code)[-1])
                for loss in losses_for(size)[-24:]:
                    lost = [place for place in places_lost(size, loss) if place in code[1]]
                    told = read_one_by_one(code, came_with(word, loss))
                    self.assertSame(told, ("lost", lost[0]) if lost else ("read", data_for(code)[-1]))
                least, most = [Fraction(*one) for one in bounds_of(code, road)]
                self.assertTrue(least <= Fraction(*failing_of(code, road)) <= most)

    def test_asked_spots_are_none_where_fewer_are_lost_than_the_least_weight(self):
        for size in SIZES:
            for code in codes_for(size):
                for loss in losses_for(size)[-24:]:
                    asked = asking_paper(code, loss)[1]
                    self.assertTrue(len(asked) <= len(loss))
                    if len(loss) < least_weight(code)[0]:
                        self.assertSame(asked, [])

    def test_a_receiver_that_hears_in_another_order_knows_the_same(self):
        draw = random.Random("order")
        for size in SIZES:
            for code in codes_for(size):
                word = word_for(code, data_for(code)[-1])
                spots = draw.sample(range(2 ** size), draw.randrange(2 ** size + 1))
                one, other = Receiver(code), Receiver(code)
                for spot in spots:
                    one.hear(spot, word[spot])
                for spot in sorted(spots):
                    other.hear(spot, word[spot])
                self.assertSame(one.known(), other.known())
                many = how_many_fit(code, one.came())
                if many <= 256:
                    signs = [set(column) for column in zip(*all_that_fit(code, one.came()))]
                    self.assertSame(one.known(), [some.pop() if len(some) == 1 else None for some in signs])


if __name__ == "__main__":
    unittest.main()
