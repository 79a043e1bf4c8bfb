"""Point [21], and forms, reasons and shifts of around.py."""

import unittest
from random import Random

from quietsums.around import form_of, is_known_reason, is_known_shift, known_reason, known_shift
from quietsums.doors import Doors
from quietsums.errors import InvalidGroup, InvalidSum, UnknownName
from quietsums.ladders import Ladder
from quietsums.parts import Part
from quietsums.shifts import moved
from quietsums.spaces import Relations, Space
from quietsums.sums import Sum
from tests.door_helpers import all_values, base_names, door_sums, passed_on, random_part, seen_names
from tests.helpers import NO_DICTS, NO_LISTS, NO_SUMS, fails, random_sum

X, Y = Sum.of(3, x=1), Sum.of(3, y=1)


def is_told_by(part, group, target, worlds):
    """Tell whether in all worlds what a group sees decides the value of a door sum."""
    names = sorted(seen_names(part, group))
    found = {}
    for world in worlds:
        found.setdefault(tuple(world[name] for name in names), set()).add(target.at(world))
    return all(len(values) == 1 for values in found.values())


class Forms(unittest.TestCase):
    def test_example(self):
        plain, masked = passed_on()
        known = {(): Space(3, [X - Y]), ("a",): Space(3, [X, Y])}
        self.assertEqual(form_of(plain), Ladder(plain.doors, Relations(3, [X - Y]), known))
        self.assertEqual(form_of(part=masked), Ladder(plain.doors, Relations(3, []), known))

    def test_constants(self):
        doors = Doors(3, ["a"], {"x": ["a"]}, {"y": ["a"], "z": ["a"]})
        part = Part(doors, [("make", "a", "y", Sum(3, {"x": 2}, 1)), ("make", "a", "z", Sum(3, {}, 2))])
        self.assertEqual(form_of(part).relations.basis(), [Sum(3, {"x": 1, "y": 1}, 2), Sum(3, {"z": 1}, 1)])
        self.assertEqual(form_of(part).space([]), Space(3, [X + Y, Sum.of(3, z=1)]))

    def test_against_all_worlds(self):
        relations, known = 0, 0
        for seed in range(120):
            part = random_part(seed)
            form, worlds = form_of(part), all_values(part)
            self.assertEqual(form.doors, part.doors)
            for target in door_sums(part.doors, range(part.doors.modulus)):
                is_holding = all(target.at(world) == 0 for world in worlds)
                self.assertIs(target in form.relations, is_holding)
                relations += is_holding and not target.is_constant
            for group in part.doors.groups():
                for target in door_sums(part.doors):
                    is_known = is_told_by(part, group, target, worlds)
                    self.assertIs(target in form.space(group), is_known)
                    known += is_known and not target.is_constant and len(group) == 0
        self.assertGreater(min(relations, known), 20)

    def test_edges(self):
        empty = Part(Doors(5, ["a"], {}, {}), [("draw", "a", "r"), ("tell", "a", "r")])
        self.assertEqual(form_of(empty), Ladder(empty.doors, Relations(5, []), {(): Space(5, []), ("a",): Space(5, [])}))
        x = Sum.of(5, x=1)
        told = Part(Doors(5, ["a", "b"], {"x": ["a"]}, {}), [("tell", "a", "x")])
        self.assertEqual([space for _, space in form_of(told).walk()], [Space(5, [x])] * 4)
        made = Part(Doors(5, ["a", "b"], {}, {"x": ["a", "b"]}), [("draw", "b", "x"), ("send", "b", "a", "x")])
        self.assertEqual([space.dimension for _, space in form_of(made).walk()], [0, 1, 1, 1])

    def test_what_is_dropped_was_seen(self):
        doors = Doors(3, ["a", "b"], {"x": ["a"]}, {"y": ["b"]})
        steps = [("draw", "a", "r"), ("send", "a", "b", "r"), ("drop", "b", "r"), ("make", "a", "y", Sum.of(3, x=1, r=1)),
                 ("send", "a", "b", "y")]
        self.assertEqual(form_of(Part(doors, steps)).space(["b"]), Space(3, [X, Y]))
        self.assertEqual(form_of(Part(doors, [steps[0], *steps[3:]])).space(["b"]), Space(3, [Y]))

    def test_ten_doors(self):
        hands = ["a", "b", "c", "d"]
        doors = Doors(13, hands, {f"x{at}": [hands[at % 4]] for at in range(5)}, {f"y{at}": [hands[at % 4]] for at in range(5)})
        steps = []
        for at in range(5):
            hand = hands[at % 4]
            steps += [("draw", hand, f"r{at}"), ("make", hand, f"y{at}", Sum.of(13, **{f"x{at}": 2, f"r{at}": 1})),
                      ("tell", hand, f"r{at}")]
        form = form_of(Part(doors, steps))
        pairs = [Sum.of(13, **{f"x{at}": 2, f"y{at}": 12}) for at in range(5)]
        self.assertEqual([form.relations, form.space([])], [Relations(13, []), Space(13, pairs)])
        self.assertEqual([form.space([hand]).dimension for hand in hands], [7, 6, 6, 6])


class Certificates(unittest.TestCase):
    def test_example(self):
        plain, masked = passed_on()
        self.assertEqual(known_reason(masked, [], Y - X), {"r": 1})
        self.assertIsNone(known_shift(group=[], target=Y - X, part=masked))
        self.assertIsNone(known_reason(target=Y, part=masked, group=()))
        shift = known_shift(masked, [], Y)
        self.assertIs(is_known_shift(masked, [], Y, shift), True)
        self.assertEqual(known_reason(plain, [], Y - X + Sum(3, {}, 1)), {})
        self.assertIsNone(known_shift(plain, [], Sum(3, {}, 2)))

    def test_reason_or_shift(self):
        kinds = set()
        for seed in range(200):
            part, chance = random_part(seed, most_drawn=3), Random(seed)
            form = form_of(part)
            group = chance.choice(part.doors.groups())
            target = random_sum(chance, part.doors.modulus, part.doors.names())
            why, shift = known_reason(part, group, target), known_shift(part, group, target)
            self.assertEqual([why is None, shift is not None], [target not in form.space(group)] * 2)
            meaning = target.put({name: part.meaning(name) for name in part.doors.names()})
            kinds.add(why is None)
            if shift is None:
                self.check_reason(part, group, target, meaning, why)
            else:
                self.check_shift(part, group, target, meaning, shift)
            self.assertEqual([known_reason(part, group, target), known_shift(part, group, target)], [why, shift])
        self.assertEqual(kinds, {True, False})

    def check_reason(self, part, group, target, meaning, why):
        self.assertIs(is_known_reason(part, group, target, why), True)
        self.assertEqual(list(why), sorted(why))
        self.assertLessEqual(set(why), seen_names(part, group))
        for name, number in why.items():
            self.assertIn(number, range(1, part.doors.modulus))
            meaning = meaning - part.meaning(name) * number
        self.assertTrue(meaning.is_constant)

    def check_shift(self, part, group, target, meaning, shift):
        self.assertIs(is_known_shift(part, group, target, shift), True)
        self.assertEqual(list(shift), sorted(shift))
        self.assertLessEqual(set(shift), set(base_names(part)))
        self.assertNotEqual(moved(meaning, shift), 0)
        self.assertTrue(all(moved(part.meaning(name), shift) == 0 for name in seen_names(part, group)))

    def test_is_known_reason_of_any_value(self):
        _, masked = passed_on()
        self.assertIs(is_known_reason(masked, ["a"], Y, {"y": 1}), True)
        self.assertIs(is_known_reason(value={"x": 1, "r": 1}, target=Y, group=("a",), part=masked), True)
        self.assertIs(is_known_reason(masked, [], Sum(3, {"y": 2, "x": 1}, 2), {"r": 2}), True)
        for value in (*NO_DICTS, {}, {"y": 2}, {"y": 1, "x": 0}, {"y": 4}, {"y": -2}, {"y": True}, {"x": 1}, {1: 1},
                      {"Y": 1}, {"y": 1, "q": 1}, {None: 1}, {"y": "1"}, {"y": 1, "r": 1}, {"a": 1}):
            self.assertIs(is_known_reason(masked, ["a"], Y, value), False, value)
        self.assertIs(is_known_reason(masked, [], Y, {"y": 1}), False)
        self.assertIs(is_known_reason(masked, [], Sum(3, {}, 1), {}), True)
        self.assertIs(is_known_reason(masked, [], Sum(3, {}, 1), {"r": 1}), False)

    def test_is_known_shift_of_any_value(self):
        doors = Doors(3, ["a", "b"], {"x": ["a"], "w": ["a"]}, {"y": ["b"]})
        part = Part(doors, [("draw", "a", "r"), ("make", "a", "y", Sum.of(3, x=1, r=1)), ("send", "a", "b", "y")])
        self.assertIs(is_known_shift(part, ["b"], X, {"x": 1, "r": 2}), True)
        self.assertIs(is_known_shift(value={"x": 2, "r": 1, "w": 1}, target=X, group=["b"], part=part), True)
        self.assertIs(is_known_shift(part, [], Y, {"r": 1}), True)
        for value in (*NO_DICTS, {}, {"x": 1}, {"r": 1}, {"x": 1, "r": 1}, {"x": 1, "r": 2, "y": 1}, {"x": 1, "r": 2, "q": 1},
                      {"x": 1, "r": 2, "w": 0}, {"x": 1, "r": 5}, {"x": True, "r": 2}, {1: 1}, {"x": -2, "r": 2}, {"w": 1},
                      {"y": 1}, {"x": 1, "r": 2, "b": 1}):
            self.assertIs(is_known_shift(part, ["b"], X, value), False, value)
        self.assertIs(is_known_shift(part, ["a"], X, {"x": 1, "r": 2}), False)
        self.assertIs(is_known_shift(part, ["b"], Sum(3, {}, 1), {"x": 1, "r": 2}), False)

    def test_new_dicts_each_time(self):
        _, masked = passed_on()
        known_reason(masked, ["a"], Y).clear()
        known_shift(masked, [], Y).clear()
        self.assertTrue(is_known_reason(masked, ["a"], Y, known_reason(masked, ["a"], Y)))
        self.assertTrue(is_known_shift(masked, [], Y, known_shift(masked, [], Y)))

    def test_wrong(self):
        _, masked = passed_on()
        for call in (known_reason, known_shift, lambda *given: is_known_reason(*given, None),
                     lambda *given: is_known_shift(*given, None)):
            for value in (*NO_LISTS, ["b"], ["a", "a"], ["x"], [None], [["a"]]):
                fails(self, InvalidGroup, call, masked, value, None, value=value)
            for value in (*NO_SUMS, Sum(5, {}), Sum.of(5, q=1)):
                fails(self, InvalidSum, call, masked, [], value, value=value)
            fails(self, UnknownName, call, masked, [], Sum.of(3, x=1, z=1, r=1), name="r")
            fails(self, UnknownName, call, masked, ["a"], Sum.of(3, a=1), name="a")


if __name__ == "__main__":
    unittest.main()
