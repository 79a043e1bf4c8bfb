"""Point [31]: deals and their forms."""

import unittest

from quietsums.deals import Deal
from quietsums.doors import Doors
from quietsums.errors import InvalidDeal, InvalidNames, MissingName
from quietsums.ladders import Ladder
from quietsums.spaces import Relations, Space
from quietsums.sums import Sum
from tests.door_helpers import door_sums, random_deal
from tests.helpers import NO_LISTS, NO_NAMES, NO_SUMS, fails, world_list

X, R = Sum.of(3, x=1), Sum.of(3, r=1)
Y = Sum.of(3, y=1)


def pair_doors():
    return Doors(3, ["a", "b"], {"x": ["a"]}, {"y": ["b"]})


def masked_deal():
    """Return a deal in which b gets x masked by r, and a gets the mask."""
    return Deal(pair_doors(), ["r"], [("y", "b", X + R), ("mask", "a", R)])


def seen_by(deal, group, world):
    """Return what a group sees in a world, by the words of the document."""
    held = [world[name] for name in deal.doors.ins() if set(deal.doors.holders(name)) & set(group)]
    return tuple(held + [total.at(world) for _, hand, total in deal.numbers() if hand is None or hand in group])


class Forms(unittest.TestCase):
    def test_example(self):
        every = Space(3, [X, Y])
        known = {(): Space(3, []), ("a",): every, ("b",): Space(3, [Y]), ("a", "b"): every}
        self.assertEqual(masked_deal().form(), Ladder(pair_doors(), Relations(3, []), known))
        told = Deal(pair_doors(), ["r"], [("y", "b", X + R), ("mask", None, R)])
        known = {(): Space(3, [Y - X]), ("a",): every, ("b",): every, ("a", "b"): every}
        self.assertEqual(told.form(), Ladder(pair_doors(), Relations(3, []), known))

    def test_against_all_worlds(self):
        holding, known = 0, 0
        for seed in range(150):
            deal = random_deal(seed)
            form = deal.form()
            worlds = world_list(deal.doors.modulus, deal.doors.ins() + deal.drawn())
            totals = {name: total for name, _, total in deal.numbers()}
            doors = [{**world, **{name: totals[name].at(world) for name in deal.doors.outs()}} for world in worlds]
            self.assertEqual(form.doors, deal.doors)
            for target in door_sums(deal.doors, range(deal.doors.modulus)):
                is_holding = all(target.at(world) == 0 for world in doors)
                self.assertIs(target in form.relations, is_holding)
                holding += is_holding and not target.is_constant
            for group in deal.doors.groups():
                views = [seen_by(deal, group, world) for world in worlds]
                for target in door_sums(deal.doors):
                    found = {}
                    for view, world in zip(views, doors):
                        found.setdefault(view, set()).add(target.at(world))
                    is_known = all(len(numbers) == 1 for numbers in found.values())
                    self.assertIs(target in form.space(group), is_known)
                    known += is_known and not target.is_constant and len(group) == 0
        self.assertGreater(min(holding, known), 20)

    def test_edges(self):
        empty = Deal(Doors(5, ["a"], {}, {}), (), ())
        self.assertEqual([empty.drawn(), empty.numbers(), empty.steps_needed], [[], [], 0])
        self.assertEqual(empty.form(), Ladder(empty.doors, Relations(5, []), {(): Space(5, []), ("a",): Space(5, [])}))
        # Without drawn names; an out that is handed to others as well and told; a number twice.
        open_deal = Deal(pair_doors(), [], [("y", "b", X), ("y", "a", X), ("y", "b", X), ("y", None, X)])
        self.assertEqual(open_deal.form().space([]), Space(3, [X, Y]))
        self.assertEqual(open_deal.form().relations, Relations(3, [X - Y]))
        shifted = Deal(pair_doors(), [], [("y", "b", X * 2 + Sum(3, {}, 1))])
        self.assertEqual(shifted.form().relations.basis(), [Sum(3, {"x": 1, "y": 1}, 2)])
        self.assertEqual(shifted.form().space([]), Space(3, [X + Y]))


class Deals(unittest.TestCase):
    def test_attributes(self):
        deal = masked_deal()
        self.assertEqual(deal.doors, pair_doors())
        self.assertEqual([deal.drawn(), deal.numbers()], [["r"], [("y", "b", X + R), ("mask", "a", R)]])
        self.assertEqual(Deal(pair_doors(), ("r",), tuple(deal.numbers())).numbers(), deal.numbers())
        self.assertEqual(Deal(numbers=[("y", "b", X)], drawn=[], doors=pair_doors()).drawn(), [])

    def test_steps_needed(self):
        self.assertEqual(masked_deal().steps_needed, 2 * 1 + 2 * 7)
        for seed in range(40):
            deal = random_deal(seed)
            n, d, k = len(deal.doors.hands()), len(deal.drawn()), len(deal.numbers())
            self.assertEqual(deal.steps_needed, n * d + k * (n * n + n + 1))
        twice = Deal(Doors(3, ["a"], {}, {}), ["r", "s"], [("t", "a", R), ("t", "a", R), ("t", None, R)])
        self.assertEqual(twice.steps_needed, 2 + 3 * 3)

    def test_equal(self):
        deal = masked_deal()
        self.assertEqual(deal, masked_deal())
        numbers = deal.numbers()
        self.assertNotEqual(deal, Deal(pair_doors(), ["r"], numbers[::-1]))
        self.assertNotEqual(deal, Deal(pair_doors(), ["r", "s"], numbers))
        self.assertNotEqual(Deal(pair_doors(), ["s", "r"], numbers), Deal(pair_doors(), ["r", "s"], numbers))
        other = Doors(3, ["b", "a"], {"x": ["a"]}, {"y": ["b"], "z": ["a"]})
        self.assertNotEqual(deal, Deal(other, ["r"], [*numbers, ("z", "a", R)]))
        other = Doors(3, ["a", "b"], {"x": ["a"], "z": ["a"]}, {"y": ["b"]})
        self.assertNotEqual(deal, Deal(other, ["r"], numbers))
        self.assertEqual(deal, Deal(Doors(3, ["b", "a"], {"x": ["a"]}, {"y": ["b"]}), ["r"], numbers))
        for value in (None, 1, "deal", [], numbers, deal.form(), (deal.doors, ["r"], numbers)):
            self.assertFalse(deal == value)

    def test_copies(self):
        drawn, numbers = ["r"], [("y", "b", X + R)]
        deal = Deal(pair_doors(), drawn, numbers)
        drawn.append("s")
        numbers.clear()
        deal.drawn().append("t")
        deal.numbers().clear()
        self.assertEqual([deal.drawn(), deal.numbers()], [["r"], [("y", "b", X + R)]])
        self.assertEqual(deal.steps_needed, 9)

    def test_wrong_drawn_names(self):
        good = [("y", "b", X)]
        for value in NO_LISTS:
            fails(self, InvalidNames, Deal, pair_doors(), value, None, position=None)
        for value in (*NO_NAMES, "x", "y", "r"):
            fails(self, InvalidNames, Deal, pair_doors(), ["r", value], good, position=1)
        fails(self, InvalidNames, Deal, pair_doors(), ("q", "x", "q"), good, position=1)
        fails(self, InvalidNames, Deal, pair_doors(), ["q", "r", "q", 5], good, position=2)
        Deal(pair_doors(), ["a", "b"], good)

    def test_wrong_numbers(self):
        def make(*numbers):
            return Deal(pair_doors(), ["r"], [("y", "b", X), *numbers])
        for value in NO_LISTS:
            fails(self, InvalidDeal, Deal, pair_doors(), ["r"], value, position=None)
        for value in (*NO_LISTS, [], ["t", "a", X], (), ("t", "a"), ("t", "a", X, X), ("t",)):
            fails(self, InvalidDeal, make, value, position=1)
        for value in (*NO_NAMES, "r", "x"):
            fails(self, InvalidDeal, make, (value, "a", X), position=1)
        for value in (*NO_NAMES, "c", ["a"], "x"):
            if value is not None:
                fails(self, InvalidDeal, make, ("t", value, X), position=1)
        for value in (*NO_SUMS, Sum.of(5, x=1), Sum(2, {}), Y, Sum.of(3, t=1), Sum.of(3, a=1), X + Y):
            fails(self, InvalidDeal, make, ("t", "a", value), position=1)
        fails(self, InvalidDeal, make, ("t", "a", R), ("t", "b", R + Sum(3, {}, 1)), position=2)
        fails(self, InvalidDeal, make, ("y", None, R), position=1)
        fails(self, InvalidDeal, make, ("t", "a", R), ("t", "c", R), ("t", "b", X), position=2)
        make(("t", "a", R), ("t", "b", R), ("t", None, R), ("a", "a", X))

    def test_missing_outs(self):
        doors = Doors(3, ["c", "a", "b"], {"x": ["a"]}, {"z": ["b"], "y": ["c", "b"]})
        fails(self, MissingName, Deal, doors, [], [], name="y", hand="b")
        fails(self, MissingName, Deal, doors, [], [("y", "b", X), ("y", "a", X), ("y", None, X)], name="y", hand="c")
        fails(self, MissingName, Deal, doors, [], [("y", "b", X), ("y", "c", X), ("z", None, X)], name="z", hand="b")

    def test_two_wrong_arguments(self):
        fails(self, InvalidNames, Deal, pair_doors(), ["x"], None, position=0)
        fails(self, InvalidNames, Deal, pair_doors(), None, [], position=None)
        fails(self, InvalidDeal, Deal, pair_doors(), [], [("z", "a", X), 5], position=1)


if __name__ == "__main__":
    unittest.main()
