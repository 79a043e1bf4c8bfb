"""Points [32] and [33]: sizes, ladders dealt, parts made from deals, and MADE of [4]."""

import unittest
from random import Random

from quietsums.around import form_of
from quietsums.deals import Deal
from quietsums.demands import Demands, least_ladder
from quietsums.doors import Doors
from quietsums.errors import TooMany
from quietsums.gaining import gains
from quietsums.ladders import Ladder
from quietsums.making import dealt, made_from, part_for, size_of
from quietsums.parts import Part
from quietsums.spaces import Relations, Space
from quietsums.sums import Sum
from tests.door_helpers import HANDS, example_doors, random_deal, random_demands, random_doors, random_part
from tests.helpers import fails, random_sum

X, R = Sum.of(3, x=1), Sum.of(3, r=1)


def drawn_ladder(seed, most_hands=4, most_doors=5):
    """Return a ladder that is neither made from demands nor from a part: its relations and spaces are drawn."""
    chance = Random(seed)
    doors = random_doors(chance, most_hands, most_doors)
    modulus = doors.modulus
    relations = Relations(modulus, [])
    for _ in range(chance.randrange(3)):
        try:
            found = Relations(modulus, relations.basis() + [random_sum(chance, modulus, doors.names())])
            if not found.without(doors.outs()).basis():
                relations = found
        except RuntimeError:
            continue
    spaces = {}
    for group in doors.groups():
        sums = relations.basis() + [Sum(modulus, {name: 1}) for name in doors.held(group)]
        for smaller, space in spaces.items():
            if set(smaller) < set(group):
                sums += space.basis()
        for _ in range(chance.randrange(3) if chance.random() < 0.4 else 0):
            sums.append(random_sum(chance, modulus, doors.names()))
        spaces[group] = Space(modulus, sums)
    return Ladder(doors, relations, spaces)


def ladders():
    """Return ladders of drawn parts, of least ladders, and drawn by themselves, with one hand to four."""
    found = [form_of(random_part(seed, random_doors(Random(seed), 4, 5), length=9)) for seed in range(60)]
    found += [least_ladder(random_demands(seed, random_doors(Random(seed), 4, 5), 6)) for seed in range(60)]
    return found + [drawn_ladder(seed) for seed in range(80)]


def edge_ladders():
    """Return ladders without outs, without ins, with no gains, without doors, and with all that is known by all."""
    a, b = Sum.of(3, a=1), Sum.of(3, b=1)
    no_outs = Demands(Doors(3, HANDS, {"a": ["b"], "b": ["a"]}, {}), [], [([], a + b), (["c1", "d"], b)])
    no_ins = Demands(Doors(3, HANDS, {}, {"a": ["b", "d"], "b": ["a"]}), [a + b + Sum(3, {}, 1)], [(["a", "c1", "d"], a)])
    found = [least_ladder(no_outs), least_ladder(no_ins)]
    found += [least_ladder(Demands(example_doors(), [Sum.of(3, t=1, x=2, y=2, z=2)], []))]
    for hands in (["a"], ["a", "b"], HANDS):
        found.append(least_ladder(Demands(Doors(2, hands, {}, {}), [], [])))
        doors = Doors(5, hands, {"x": hands[:1]}, {"y": hands})
        found.append(least_ladder(Demands(doors, [], [([], Sum.of(5, x=1)), ([], Sum.of(5, y=1))])))
    return found


def counted_size(ladder):
    """Return the size by the words of the document."""
    doors = ladder.doors
    groups = [(group, len(gains(ladder, group))) for group in doors.groups() if len(group) < len(doors.hands())]
    numbers = sum(len(doors.holders(name)) for name in doors.outs())
    numbers += sum(many * (len(group) if len(group) > 1 else 1) for group, many in groups)
    drawn = len(doors.outs()) + sum(many * (len(group) - 1) for group, many in groups if group)
    return numbers, drawn


class Sizes(unittest.TestCase):
    def test_size(self):
        for ladder in ladders() + edge_ladders():
            self.assertEqual(size_of(ladder), counted_size(ladder))
        ladder = least_ladder(Demands(example_doors(), [], [([], X), (["a", "b"], Sum.of(3, z=1)), (["b"], Sum.of(3, t=1))]))
        # The out t is handed to c; x is told; t is handed to b; z is handed to a and b in two pieces.
        self.assertEqual(size_of(ladder), (1 + 1 + 1 + 2, 1 + 1))
        self.assertEqual(size_of(ladder=edge_ladders()[2]), (1, 1))

    def test_wide_groups(self):
        doors = Doors(2, HANDS, {"x": ["d"]}, {"y": ["d", "a"]})
        ladder = least_ladder(Demands(doors, [], [(["a", "b", "c1"], Sum.of(2, x=1))]))
        self.assertEqual(size_of(ladder), (2 + 3, 1 + 2))


class Dealt(unittest.TestCase):
    def test_form_and_size(self):
        relations, drawn = 0, 0
        for ladder in ladders() + edge_ladders():
            deal = dealt(ladder)
            numbers, names = size_of(ladder)
            self.assertIs(type(deal), Deal)
            self.assertEqual(deal.form(), ladder)
            self.assertLessEqual(len(deal.numbers()), numbers)
            self.assertLessEqual(len(deal.drawn()), names)
            self.assertEqual(dealt(ladder=ladder), deal)
            relations += ladder.relations.dimension > 1
            drawn += len(deal.drawn()) > 2
        self.assertGreater(min(relations, drawn), 10)

    def test_names_of_doors_are_avoided(self):
        doors = Doors(3, ["a", "b"], {"r1": ["a"], "p1": ["a"]}, {"r2": ["b"], "p2": ["a"]})
        ladder = least_ladder(Demands(doors, [], [([], Sum.of(3, r1=1, r2=1))]))
        self.assertEqual(dealt(ladder).form(), ladder)
        self.assertEqual(form_of(part_for(ladder)), ladder)

    def test_ten_doors_and_four_hands(self):
        doors = Doors(13, HANDS, {f"x{at}": [HANDS[at % 4]] for at in range(5)}, {f"y{at}": [HANDS[at % 3]] for at in range(5)})
        one = {name: Sum(13, {name: 1}) for name in doors.names()}
        ladder = least_ladder(Demands(doors, [one["y0"] - one["x1"] * 3, one["y1"] + one["y2"] - one["x0"] + Sum(13, {}, 7)],
                                      [([], one["y4"]), (["a", "d"], one["x0"] + one["x1"] * 5), (["b"], one["x3"])]))
        self.assertEqual(dealt(ladder).form(), ladder)
        self.assertEqual(form_of(part_for(ladder)), ladder)


class MadeFrom(unittest.TestCase):
    def test_form(self):
        for seed in range(150):
            deal = random_deal(seed, random_doors(Random(seed), 4, 4))
            part = made_from(deal)
            self.assertIs(type(part), Part)
            self.assertEqual(form_of(part), deal.form())
            self.assertLessEqual(len(part), deal.steps_needed)
            self.assertEqual(made_from(deal=deal), part)

    def test_repeated_numbers(self):
        doors = Doors(3, HANDS, {"x": ["b", "a"]}, {"y": ["d", "c1"]})
        out = [("y", "d", X + R), ("y", "c1", X + R), ("y", "d", X + R)]
        for more in ([], [("y", None, X + R)], [("y", "a", X + R), ("y", None, X + R), ("y", None, X + R)],
                     [("t", None, R), ("t", None, R), ("t", "a", R)], [("t", "b", R), ("t", "b", R), ("t", "c1", R)]):
            for numbers in (out + more, more[::-1] + out):
                deal = Deal(doors, ["r"], numbers)
                self.assertEqual(form_of(made_from(deal)), deal.form())
                self.assertLessEqual(len(made_from(deal)), deal.steps_needed)

    def test_names_of_the_deal_are_avoided(self):
        doors = Doors(3, ["a", "b"], {"p1": ["a"]}, {"p2": ["b"]})
        deal = Deal(doors, ["p3"], [("p2", "b", Sum.of(3, p1=1, p3=1)), ("p4", "a", Sum.of(3, p3=1)), ("p5", None, Sum(3, {}, 2))])
        self.assertEqual(form_of(made_from(deal)), deal.form())

    def test_one_hand(self):
        doors = Doors(3, ["a"], {"x": ["a"]}, {"y": ["a"]})
        deal = Deal(doors, ["r"], [("y", "a", X + R + Sum(3, {}, 2)), ("t", None, R)])
        self.assertEqual(form_of(made_from(deal)), deal.form())
        self.assertLessEqual(len(made_from(deal)), 1 + 2 * 3)

    def test_six_hundred_steps(self):
        # Three hands: 3 d + 13 k = 600 with d = 18 and k = 42.
        doors = Doors(3, ["a", "b", "c"], {"x": ["a"]}, {"y": ["b"]})
        drawn = [f"d{at}" for at in range(18)]
        numbers = [("y", "b", X)]
        for at in range(41):
            total = Sum(3, {drawn[at % 18]: 1, "x": at % 3})
            numbers.append((f"n{at}", ["a", "b", "c", None][at % 4] if at < 18 else "c", total))
        deal = Deal(doors, drawn, numbers)
        self.assertEqual(deal.steps_needed, 600)
        part = made_from(deal)
        self.assertLessEqual(len(part), 600)
        self.assertEqual(form_of(part), deal.form())
        # One more: 3 * 14 + 13 * 43.
        more = Deal(doors, drawn[:14], [("y", "b", X)] + [(f"n{at}", "a", X) for at in range(42)])
        self.assertEqual(more.steps_needed, 601)
        fails(self, TooMany, made_from, more, limit=600)


class PartFor(unittest.TestCase):
    def test_form(self):
        for ladder in ladders() + edge_ladders():
            hands = len(ladder.doors.hands())
            numbers, drawn = size_of(ladder)
            bound = hands * drawn + numbers * (hands * hands + hands + 1)
            if bound > 600:
                fails(self, TooMany, part_for, ladder, limit=600)
                continue
            part = part_for(ladder)
            self.assertEqual(part.doors, ladder.doors)
            self.assertEqual(form_of(part), ladder)
            self.assertLessEqual(len(part), bound)
            self.assertEqual(part_for(ladder=ladder), part)

    def test_exactly_six_hundred_steps(self):
        # The outs are handed over six times. Then 7 ins for each of b, c1 and d, and y1 for b: 4 * 3 + 21 * 28.
        doors = Doors(5, HANDS, {f"x{at}": ["a"] for at in range(7)}, {"y0": HANDS, "y1": ["a"], "y2": ["a"]})
        must = [([hand], Sum(5, {f"x{at}": 2, "y0": at % 5})) for hand in ("b", "c1", "d") for at in range(7)]
        ladder = least_ladder(Demands(doors, [], must + [(["b"], Sum.of(5, y1=1))]))
        self.assertEqual(size_of(ladder), (28, 3))
        part = part_for(ladder)
        self.assertLessEqual(len(part), 600)
        self.assertEqual(form_of(part), ladder)

    def test_one_step_more(self):
        # Seven outs, and six sums in three pieces for b, c1 and d: 4 * 19 + 21 * 25 = 601.
        doors = Doors(5, HANDS, {}, {f"y{at}": ["a"] for at in range(7)})
        ladder = least_ladder(Demands(doors, [], [(["d", "b", "c1"], Sum(5, {f"y{at}": 1})) for at in range(6)]))
        self.assertEqual(size_of(ladder), (25, 19))
        fails(self, TooMany, part_for, ladder, limit=600)
        # It is dealt all the same.
        self.assertEqual(dealt(ladder).form(), ladder)

    def test_the_size_decides(self):
        # As above, but one out equals another one: so less is drawn, while the size is the same.
        doors = Doors(5, HANDS, {}, {f"y{at}": ["a"] for at in range(7)})
        must = [(["d", "b", "c1"], Sum(5, {f"y{at}": 1})) for at in range(6)]
        ladder = least_ladder(Demands(doors, [Sum.of(5, y6=1, y0=4)], must))
        self.assertEqual(size_of(ladder), (25, 19))
        fails(self, TooMany, part_for, ladder, limit=600)
        self.assertLessEqual(dealt(ladder).steps_needed, 600)
        self.assertEqual(form_of(made_from(dealt(ladder))), ladder)

    def test_least_of_gains(self):
        for ladder in ladders()[:40]:
            self.assertEqual(form_of(part_for(least_ladder(Demands.of(ladder)))), ladder)


if __name__ == "__main__":
    unittest.main()
