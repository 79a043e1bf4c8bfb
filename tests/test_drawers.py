"""Point [34]: who has to draw; drawing bars, parts that only some hands draw in, least drawers."""

import unittest
from random import Random

from quietsums.around import form_of
from quietsums.demands import Demands, least_ladder
from quietsums.doors import Doors
from quietsums.drawers import drawing_bar, least_drawers, made_by
from quietsums.drawing import made_by_drawers
from quietsums.errors import InvalidGroup, TooMany
from quietsums.parts import Part
from quietsums.reaching import first_bar
from quietsums.spaces import Space
from quietsums.sums import Sum
from tests.door_helpers import HANDS, random_demands, random_doors, random_part
from tests.helpers import NO_LISTS, fails
from tests.test_making import drawn_ladder

X, Y, Z = Sum.of(3, x=1), Sum.of(3, y=1), Sum.of(3, z=1)


def drawing_hands(part):
    return {step[1] for step in part.steps() if step[0] == "draw"}


def added_ladder(hands, more=()):
    """Return the least ladder by which the third of some hands comes to hold x + y of the first two."""
    doors = Doors(3, hands, {"x": ["a"], "y": ["b"]}, {"t": ["c"]})
    return least_ladder(Demands(doors, [Sum.of(3, t=1) - X - Y], list(more)))


def drawers_ladder(seed, most_hands=3, most_doors=5):
    """Return a ladder that a drawn part has, or that is least by drawn demands, or that is drawn itself."""
    if seed % 3 == 0:
        return form_of(random_part(seed, random_doors(Random(seed), most_hands, most_doors), length=9))
    if seed % 3 == 1:
        return drawn_ladder(seed, most_hands, most_doors)
    return least_ladder(random_demands(seed, random_doors(Random(seed), most_hands, most_doors), 6))


def together(ladder, group, hand):
    return ladder.space(sorted(set(group) | {hand}))


def plain_bar(ladder, drawers):
    """Return the drawing bar by the words of the document."""
    doors = ladder.doors
    modulus = doors.modulus
    every_in = Space.everything(modulus, doors.ins())
    for name in doors.outs():
        if Sum(modulus, {name: 1}) not in ladder.space(drawers).joined(every_in):
            return "out", name
    for group in doors.groups():
        if set(drawers) <= set(group):
            spanned = Space(modulus, [total for hand in group for total in together(ladder, drawers, hand).basis()])
            for total in ladder.space(group).basis():
                if total not in spanned:
                    return "apart", group, total
    reach = {hand: Space.everything(modulus, [name for name in doors.ins() if hand in doors.holders(name)])
             for hand in doors.hands()}
    for _ in range(len(doors.hands()) * len(doors.ins()) + 1):
        reach = {hand: Space(modulus, reach[hand].basis() + [total for other in doors.hands() for total in
                                                             reach[other].shared(together(ladder, drawers, hand)).basis()])
                 for hand in doors.hands()}
    for hand in doors.hands():
        for total in together(ladder, drawers, hand).without(doors.outs()).basis():
            if total not in reach[hand]:
                return "reach", hand, total
    return None


class Bars(unittest.TestCase):
    def test_example(self):
        ladder = added_ladder(["a", "b", "c"])
        for group in (["a"], ["b"], ["c"], ["b", "a"]):
            self.assertIsNone(drawing_bar(ladder, group))
            part = made_by(ladder, group)
            self.assertEqual(form_of(part), ladder)
            self.assertLessEqual(drawing_hands(part), set(group))
        self.assertEqual(least_drawers(ladder), [("a",), ("b",), ("c",)])

    def test_example_of_four_hands(self):
        # The public functions take three hands at most. So the conditions are asked for below them.
        ladder = added_ladder(["a", "b", "c", "d"])
        for group in (["a"], ["b"], ["c"], ["a", "d"]):
            self.assertIsNone(first_bar(ladder, group))
            self.assertEqual(form_of(made_by_drawers(ladder, group)), ladder)
        self.assertEqual(first_bar(ladder, ["d"]), ("reach", "c", X + Y))

    def test_out(self):
        doors = Doors(3, ["a", "b"], {"x": ["a"]}, {"z": ["b"], "y": ["a"]})
        ladder = least_ladder(Demands(doors, [], []))
        self.assertEqual(drawing_bar(ladder, ["a"]), ("out", "z"))
        self.assertEqual(drawing_bar(ladder, ("b",)), ("out", "y"))
        self.assertIsNone(drawing_bar(ladder, ["b", "a"]))
        self.assertIsNone(made_by(ladder, ["b"]))
        self.assertEqual(least_drawers(ladder), [("a", "b")])
        # If a knows z minus x, then z is x and something that a may have drawn.
        ladder = least_ladder(Demands(doors, [], [(["a"], Z - X)]))
        self.assertIsNone(drawing_bar(group=["a"], ladder=ladder))
        self.assertEqual(form_of(made_by(group=["a"], ladder=ladder)), ladder)

    def test_apart(self):
        doors = Doors(3, HANDS, {"x": ["a"], "y": ["a"]}, {})
        ladder = least_ladder(Demands(doors, [], [(["d", "b", "c1"], X + Y)]))
        self.assertEqual(first_bar(ladder, ["d"]), ("apart", ("b", "c1", "d"), X + Y))
        self.assertEqual(first_bar(ladder, ["b"]), ("apart", ("b", "c1", "d"), X + Y))
        self.assertIsNone(first_bar(ladder, ["b", "c1"]))
        self.assertIsNone(first_bar(ladder, ["a"]))

    def test_bars_by_the_words(self):
        found = set()
        for seed in range(150):
            ladder = drawers_ladder(seed)
            for group in ladder.doors.groups()[1:]:
                bar = drawing_bar(ladder, list(group))
                self.assertEqual(bar, plain_bar(ladder, group))
                found.add(bar and bar[0])
            wide = drawers_ladder(seed, 4, 6)
            for group in wide.doors.groups()[1:]:
                self.assertEqual(first_bar(wide, group), plain_bar(wide, group))
        self.assertEqual(found, {None, "out"})

    def test_who_drew_has_no_bar(self):
        chance, many = Random(1), 0
        for seed in range(300):
            part = random_part(seed, random_doors(chance, 4, 5), most_drawn=3, length=10)
            drawers = sorted(drawing_hands(part)) or part.doors.hands()[:1]
            self.assertIsNone(first_bar(form_of(part), drawers))
            many += 0 < len(drawers) < len(part.doors.hands())
        self.assertGreater(many, 50)


class MadeBy(unittest.TestCase):
    def test_form(self):
        many = 0
        for seed in range(150):
            ladder = drawers_ladder(seed)
            for group in ladder.doors.groups()[1:]:
                part = made_by(ladder, list(reversed(group)))
                self.assertIs(part is None, drawing_bar(ladder, group) is not None)
                if part is not None:
                    self.assertIs(type(part), Part)
                    self.assertEqual(form_of(part), ladder)
                    self.assertLessEqual(drawing_hands(part), set(group))
                    self.assertEqual(made_by(ladder, group), part)
                    many += len(group) < len(ladder.doors.hands())
        self.assertGreater(many, 100)

    def test_four_hands(self):
        many = 0
        for seed in range(40):
            ladder = drawers_ladder(seed, 4, 6)
            for group in ladder.doors.groups()[1:]:
                if first_bar(ladder, group) is None:
                    part = made_by_drawers(ladder, group)
                    self.assertEqual(form_of(part), ladder)
                    self.assertLessEqual(drawing_hands(part), set(group))
                    many += len(group) < len(ladder.doors.hands())
        self.assertGreater(many, 50)

    def test_relayed_sums(self):
        # Only c draws, and learns x + 2 y of two hands who learn nothing; d is not there to hide anything.
        doors = Doors(3, ["a", "b", "c"], {"x": ["a"], "y": ["b"], "z": ["c", "a"]}, {})
        ladder = least_ladder(Demands(doors, [], [(["c"], X + Y * 2)]))
        part = made_by(ladder, ["c"])
        self.assertEqual(form_of(part), ladder)
        self.assertEqual(drawing_hands(part), {"c"})

    def test_parts_of_a_sum_in_different_reaches(self):
        # Together with a, b comes to know z, and c comes to know y. Without a they know y + z together.
        doors = Doors(3, ["a", "b", "c", "d"], {"y": ["d"], "z": ["d"]}, {})
        ladder = least_ladder(Demands(doors, [], [(["a", "b"], Z), (["a", "c"], Y), (["b", "c"], Y + Z)]))
        self.assertIsNone(first_bar(ladder, ["a"]))
        part = made_by_drawers(ladder, ["a"])
        self.assertEqual([form_of(part) == ladder, drawing_hands(part)], [True, {"a"}])

    def test_all_draw(self):
        for seed in range(40):
            ladder = drawers_ladder(seed)
            self.assertEqual(form_of(made_by(ladder, ladder.doors.hands())), ladder)

    def test_six_doors_with_three_hands(self):
        hands = ["a", "b", "c"]
        doors = Doors(13, hands, {f"x{at}": [hands[at]] for at in range(3)}, {f"y{at}": [hands[at]] for at in range(3)})
        one = {name: Sum(13, {name: 1}) for name in doors.names()}
        ladder = least_ladder(Demands(doors, [one["y0"] - one["x1"] * 3 - one["x2"] + Sum(13, {}, 4)],
                                      [(["a", "b"], one["y1"] - one["x2"]), ([], one["x0"] + one["y2"])]))
        for group in doors.groups()[1:]:
            part = made_by(ladder, group)
            self.assertIs(part is None, drawing_bar(ladder, group) is not None)
            self.assertTrue(part is None or form_of(part) == ladder)
        self.assertEqual(least_drawers(ladder), [("b",)])


class LeastDrawers(unittest.TestCase):
    def test_least(self):
        sizes = set()
        for seed in range(150):
            ladder = drawers_ladder(seed)
            alone = [group for group in ladder.doors.groups()[1:] if drawing_bar(ladder, group) is None]
            least = [group for group in alone if not any(set(other) < set(group) for other in alone)]
            self.assertEqual(least_drawers(ladder), least)
            sizes.add(len(least[0]))
        self.assertEqual(sizes, {1, 2})
        self.assertEqual(least_drawers(ladder=added_ladder(["a", "b", "c"])), [("a",), ("b",), ("c",)])

    def test_nothing_to_draw(self):
        ladder = least_ladder(Demands(Doors(2, ["b", "a"], {}, {}), [], []))
        self.assertEqual(least_drawers(ladder), [("a",), ("b",)])
        self.assertEqual(len(made_by(ladder, ["b"])), 0)

    def test_new_lists(self):
        ladder = added_ladder(["a", "b", "c"])
        least_drawers(ladder).clear()
        self.assertEqual(len(least_drawers(ladder)), 3)


class Wrong(unittest.TestCase):
    def test_groups(self):
        ladder = added_ladder(["a", "b", "c"])
        for call in (drawing_bar, made_by):
            for value in (*NO_LISTS, [], (), ["d"], ["a", "a"], [None], ["x"], [["a"]], ["t"], ("a", "b", "c", "a")):
                fails(self, InvalidGroup, call, ladder, value, value=value)

    def test_too_many(self):
        wide = added_ladder(["a", "b", "c", "d"])
        doors = Doors(3, ["a", "b"], {f"x{at}": ["a"] for at in range(4)}, {f"y{at}": ["a"] for at in range(3)})
        long = least_ladder(Demands(doors, [], []))
        both = Doors(3, HANDS, {f"x{at}": ["a"] for at in range(7)}, {})
        for ladder, limit in ((wide, 3), (long, 6), (least_ladder(Demands(both, [], [])), 3)):
            fails(self, TooMany, drawing_bar, ladder, ["a"], limit=limit)
            fails(self, TooMany, made_by, ladder, ["a"], limit=limit)
            fails(self, TooMany, least_drawers, ladder, limit=limit)
        fits = Doors(3, ["a", "b"], {f"x{at}": ["a"] for at in range(4)}, {f"y{at}": ["a"] for at in range(2)})
        self.assertEqual(least_drawers(least_ladder(Demands(fits, [], []))), [("a",)])

    def test_two_wrong(self):
        wide = added_ladder(["a", "b", "c", "d"])
        for call in (drawing_bar, made_by):
            fails(self, InvalidGroup, call, wide, ["e"], value=["e"])
            fails(self, InvalidGroup, call, wide, [], value=[])


if __name__ == "__main__":
    unittest.main()
