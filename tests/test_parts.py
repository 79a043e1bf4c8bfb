"""Points [19] and [20], the first sentence of [21], and the class Part."""

import unittest
from random import Random

from quietsums.doors import Doors
from quietsums.errors import (InvalidGroup, InvalidHands, InvalidMoment, InvalidStep, MissingName, NameTaken,
                              UnknownHand, UnknownName)
from quietsums.parts import Part
from quietsums.plans import Plan
from quietsums.sums import Sum
from tests.door_helpers import base_names, part_holdings, part_values, random_part, seen_names
from tests.helpers import NO_INTEGERS, NO_LISTS, NO_NAMES, NO_SUMS, Plain, fails, holdings, world_list

X = Sum.of(5, x=1)
ADDED = [("draw", "a", "r"), ("send", "a", "b", "r"), ("make", "a", "s", Sum.of(5, x=1, r=1)), ("tell", "a", "s"),
         ("make", "b", "y", Sum.of(5, s=1, r=4)), ("drop", "b", "r"), ("drop", "a", "s")]


def two_doors():
    """Return doors: a holds x, b gets y."""
    return Doors(5, ["b", "a"], {"x": ["a"]}, {"y": ["b"]})


def added():
    """Return a part with steps of all kinds in which b gets x, masked by r."""
    return Part(two_doors(), ADDED)


def step_fails(case, steps, position, doors=None):
    fails(case, InvalidStep, Part, doors or two_doors(), steps, position=position)


class Asking(unittest.TestCase):
    def test_all_kinds(self):
        part = added()
        self.assertEqual([part.doors, len(part), part.steps()], [two_doors(), 7, ADDED])
        self.assertEqual([part.names(), part.told_names()], [["r", "s", "x", "y"], ["s"]])
        self.assertEqual([part.meaning("x"), part.meaning("r"), part.meaning(name="s"), part.meaning("y")],
                         [X, Sum.of(5, r=1), Sum.of(5, x=1, r=1), X])
        self.assertEqual([part.held("a", moment) for moment in range(8)],
                         [["x"], ["r", "x"], ["r", "x"], ["r", "s", "x"], ["r", "s", "x"], ["r", "s", "x"],
                          ["r", "s", "x"], ["r", "x"]])
        self.assertEqual([part.held(moment=moment, hand="b") for moment in range(8)],
                         [[], [], ["r"], ["r"], ["r", "s"], ["r", "s", "y"], ["s", "y"], ["s", "y"]])
        self.assertEqual([part.seen([]), part.seen(["b"]), part.seen(group=("b", "a"))],
                         [["s"], ["r", "s", "y"], ["r", "s", "x", "y"]])

    def test_seen_and_held_by_the_words(self):
        for seed in range(150):
            part = random_part(seed)
            moments = part_holdings(part)
            for moment, held in enumerate(moments):
                for hand in part.doors.hands():
                    self.assertEqual(part.held(hand, moment), sorted(held[hand]))
            for group in part.doors.groups():
                self.assertEqual(part.seen(list(group)), sorted(seen_names(part, group)))
            made = [step[2] for step in part.steps() if step[0] in ("draw", "make")]
            self.assertEqual(part.names(), sorted(part.doors.ins() + made))
            self.assertEqual(part.told_names(), [step[2] for step in part.steps() if step[0] == "tell"])

    def test_told_names_in_the_sequence_of_their_steps(self):
        part = Part(Doors(5, ["a"], {"x": ["a"], "w": ["a"]}, {}), [("draw", "a", "r"), ("tell", "a", "x"),
                                                                    ("tell", "a", "r"), ("tell", "a", "w")])
        self.assertEqual(part.told_names(), ["x", "r", "w"])

    def test_meanings_are_values(self):
        for seed in range(60):
            part = random_part(seed)
            for world in world_list(part.doors.modulus, base_names(part)):
                found = part_values(part, world)
                self.assertEqual(found, {name: part.meaning(name).at(world) for name in part.names()})

    def test_without_steps(self):
        part = Part(Doors(5, ["a", "b"], {"x": ["a"]}, {}), [])
        self.assertEqual([len(part), part.steps(), part.names(), part.told_names()], [0, [], ["x"], []])
        self.assertEqual([part.held("a", 0), part.held("b", 0), part.seen(["a"]), part.seen([])], [["x"], [], ["x"], []])
        self.assertEqual(part.placed(["a", "b"], [("own", "a", "x")], []), Plan(5, ["a", "b"], [("own", "a", "x")]))
        self.assertEqual(part.moments(["a", "b"], [("own", "a", "x")]), (1, 1, 1))
        self.assertEqual(Part(doors=Doors(5, ["a"], {}, {}), steps=()).names(), [])

    def test_an_in_that_others_get(self):
        doors = Doors(5, ["a", "b", "c"], {"x": ["a"]}, {"y": ["c", "b"]})
        part = Part(doors, [("send", "a", "b", "x"), ("make", "b", "y", X), ("send", "b", "c", "y")])
        self.assertEqual([part.held("b", 3), part.held("c", 3)], [["x", "y"], ["y"]])
        told = Part(doors, [("tell", "a", "x"), ("make", "c", "y", X), ("send", "c", "b", "y")])
        self.assertEqual([told.seen([]), told.seen(["b"]), told.held("b", 1)], [["x"], ["x", "y"], ["x"]])

    def test_an_out_that_is_dropped_and_sent_again(self):
        steps = [("draw", "b", "y"), ("send", "b", "a", "y"), ("drop", "b", "y"), ("send", "a", "b", "y")]
        self.assertEqual(Part(two_doors(), steps).held("b", 4), ["y"])
        fails(self, MissingName, Part, two_doors(), steps[:3], name="y", hand="b")

    def test_hands_called_like_names(self):
        doors = Doors(5, ["x", "r"], {"x": ["r"]}, {"y": ["x"]})
        part = Part(doors, [("draw", "r", "r"), ("send", "r", "x", "x"), ("make", "x", "y", X)])
        self.assertEqual([part.seen(["x"]), part.seen(["r"])], [["x", "y"], ["r", "x"]])

    def test_equality(self):
        self.assertTrue(added() == added())
        self.assertTrue(added() == Part(Doors(5, ("a", "b"), {"x": ("a",)}, {"y": ("b",)}), tuple(ADDED)))
        more = Doors(5, ["a", "b", "c"], {"x": ["a"]}, {"y": ["b"]})
        others = (Part(two_doors(), ADDED[:5]), Part(more, ADDED), Part(two_doors(), [*ADDED[:5], ADDED[6], ADDED[5]]))
        for other in (*others, None, 0, two_doors(), ADDED, Plain()):
            self.assertFalse(added() == other)
            self.assertTrue(added() != other)

    def test_copies(self):
        steps = list(ADDED)
        part = Part(two_doors(), steps)
        steps.clear()
        self.assertEqual(part, added())
        for call in (part.steps, part.names, part.told_names, lambda: part.held("a", 7), lambda: part.seen(["b"])):
            before = list(call())
            self.assertIs(type(call()), list)
            call().append("more")
            self.assertEqual(call(), before)

    def test_wrong_questions(self):
        part = added()
        for value in (*NO_NAMES, "a", "z"):
            fails(self, UnknownName, part.meaning, value, name=value)
        for value in (*NO_NAMES, "c", "x"):
            fails(self, UnknownHand, part.held, value, None, value=value)
        for value in (*NO_INTEGERS, -1, 8):
            fails(self, InvalidMoment, part.held, "a", value, value=value)
        for value in (*NO_LISTS, ["c"], ["a", "a"], ["x"], ["a", None], [["a"]]):
            fails(self, InvalidGroup, part.seen, value, value=value)


class WrongParts(unittest.TestCase):
    def test_no_list(self):
        for value in NO_LISTS:
            step_fails(self, value, None)

    def test_forms(self):
        forms = [None, True, 0, "draw", [], ["draw", "a", "r"], {}, (), ("draw",), ("draw", "a"), ("draw", "a", "r", "r"),
                 ("Draw", "a", "r"), (None, "a", "r"), ("make", "a", "m"), ("send", "a", "b"), ("tell", "a"), ("drop", "a"),
                 ("send", "a", "b", "x", "x"), ("tell", "a", "x", "x"), ("tell", "x", "a"), Plain()]
        for form in forms:
            step_fails(self, [("draw", "b", "y"), form, None], 1)

    def test_kinds_of_plans_alone(self):
        step_fails(self, [("draw", "b", "y"), ("own", "a", "r")], 1)
        step_fails(self, [("draw", "b", "y"), ("want", "a", "x", X)], 1)
        step_fails(self, [("draw", "b", "y"), ("want", "a", "x", Sum(5, {}))], 1)

    def test_hands(self):
        for value in (*NO_NAMES, "c", "x"):
            for step in (("draw", value, "r"), ("make", value, "r", Sum(5, {})), ("send", value, "b", "x"),
                         ("send", "a", value, "x"), ("tell", value, "x"), ("drop", value, "x")):
                step_fails(self, [("draw", "b", "y"), step], 1)

    def test_new_names(self):
        for value in (*NO_NAMES, "x", "y"):
            for step in (("draw", "a", value), ("make", "a", value, Sum(5, {}))):
                step_fails(self, [("draw", "b", "y"), step], 1)
        step_fails(self, [("draw", "a", "r"), ("drop", "a", "r"), ("draw", "a", "r")], 2)

    def test_held_names(self):
        for value in (*NO_NAMES, "x", "a", "z"):
            for step in (("send", "b", "a", value), ("tell", "b", value), ("drop", "b", value)):
                step_fails(self, [("draw", "b", "y"), step], 1)
        step_fails(self, [("send", "a", "a", "x")], 0)
        step_fails(self, [("tell", "a", "x"), ("tell", "b", "x")], 1)
        for value in (*NO_SUMS, Sum(7, {}), Sum.of(5, y=1), Sum.of(5, x=1, z=1), Sum.of(5, m=1)):
            step_fails(self, [("draw", "b", "y"), ("make", "a", "m", value)], 1)

    def test_an_in_is_never_dropped(self):
        step_fails(self, [("draw", "b", "y"), ("drop", "a", "x")], 1)
        step_fails(self, [("draw", "b", "y"), ("send", "a", "b", "x"), ("drop", "b", "x")], 2)
        step_fails(self, [("tell", "a", "x"), ("drop", "b", "x")], 1)

    def test_missing_outs(self):
        doors = Doors(5, ["b", "a"], {}, {"y": ["b", "a"], "x": ["b"]})
        made = [("draw", "a", "x"), ("draw", "b", "y")]
        fails(self, MissingName, Part, doors, [], name="x", hand="b")
        fails(self, MissingName, Part, doors, made, name="x", hand="b")
        fails(self, MissingName, Part, doors, [*made, ("send", "a", "b", "x")], name="y", hand="a")
        fails(self, MissingName, Part, doors, [*made, ("send", "a", "b", "x"), ("send", "b", "a", "y"), ("drop", "b", "y")],
              name="y", hand="b")
        self.assertEqual(len(Part(doors, [*made, ("send", "a", "b", "x"), ("send", "b", "a", "y")])), 4)
        step_fails(self, [None], 0, doors)


AHEAD = [("own", "c", "q"), ("own", "a", "x")]


def placed_by_words(part, hands, ahead, behind):
    """Return the steps of the plan in which a part is placed, by the words of the document."""
    steps = [*ahead, *part.steps()]
    before, now = holdings(hands, ahead)[-1], holdings(hands, steps)[-1]
    for name in sorted({name for held in now.values() for name in held}):
        for hand in sorted(hands):
            is_holder = name in part.doors.outs() and hand in part.doors.holders(name)
            if name in now[hand] and name not in before[hand] and not is_holder:
                steps.append(("drop", hand, name))
    return steps + list(behind)


class Placing(unittest.TestCase):
    def test_step_by_step(self):
        behind = [("tell", "b", "y"), ("want", "b", "y", X)]
        drops = [("drop", "a", "r"), ("drop", "b", "s"), ("drop", "c", "s")]
        plan = added().placed(["c", "b", "a"], AHEAD, behind)
        self.assertEqual(plan, Plan(5, ["c", "b", "a"], [*AHEAD, *ADDED, *drops, *behind]))
        self.assertEqual(added().placed(behind=(), ahead=tuple(AHEAD), hands=("a", "b", "c")),
                         Plan(5, ["a", "b", "c"], [*AHEAD, *ADDED, *drops]))
        self.assertEqual(added().moments(["c", "b", "a"], AHEAD), (2, 9, 12))
        self.assertEqual(added().moments(ahead=tuple(AHEAD), hands=("a", "b", "c")), (2, 9, 12))

    def test_after_the_part_all_is_as_before_but_for_the_outs(self):
        for seed in range(100):
            part, chance = random_part(seed), Random(seed)
            hands = part.doors.hands() + ["e", "f"][:chance.randrange(3)]
            chance.shuffle(hands)
            ahead = [("own", hands[0], "p0"), ("tell", hands[0], "p0")][:chance.randrange(3)]
            for name in part.doors.ins():
                first = chance.choice(hands)
                others = set(part.doors.holders(name)) | set(chance.sample(hands, chance.randrange(len(hands))))
                ahead.append(("own", first, name))
                ahead += [("send", first, other, name) for other in sorted(others - {first})]
            behind = [("own", hands[-1], "p1"), ("tell", hands[-1], "p1")][:chance.randrange(3)]
            plan = part.placed(hands, ahead, behind)
            self.assertEqual(plan, Plan(part.doors.modulus, hands, placed_by_words(part, hands, ahead, behind)))
            before, last, after = part.moments(hands, ahead)
            self.assertEqual([before, last], [len(ahead), len(ahead) + len(part)])
            self.assertEqual(after, len(plan) - len(behind))
            for hand in hands:
                outs = {name for name in part.doors.outs() if hand in part.doors.holders(name)}
                self.assertEqual(set(plan.held(hand, after)), set(plan.held(hand, before)) | outs)

    def test_what_was_held_before_stays(self):
        doors = Doors(5, ["a", "b"], {"x": ["a"]}, {})
        part = Part(doors, [("tell", "a", "x"), ("draw", "b", "r"), ("tell", "b", "r")])
        ahead = [("own", "b", "x"), ("send", "b", "a", "x"), ("send", "b", "d", "x")]
        plan = part.placed(["d", "c", "b", "a"], ahead, [])
        drops = [("drop", "a", "r"), ("drop", "b", "r"), ("drop", "c", "r"), ("drop", "d", "r"), ("drop", "c", "x")]
        self.assertEqual(plan.steps(), [*ahead, *part.steps(), *drops])
        self.assertEqual(part.moments(["d", "c", "b", "a"], ahead), (3, 6, 11))

    def test_an_out_with_several_holders_that_everybody_hears(self):
        doors = Doors(5, ["a", "b", "c"], {}, {"y": ["c", "a"]})
        part = Part(doors, [("draw", "a", "y"), ("tell", "a", "y")])
        plan = part.placed(["a", "b", "c", "d"], [], [("send", "c", "b", "y")])
        self.assertEqual(plan.steps()[2:], [("drop", "b", "y"), ("drop", "d", "y"), ("send", "c", "b", "y")])

    def test_six_hands(self):
        part = Part(Doors(5, ["a"], {}, {}), [("draw", "a", "r"), ("tell", "a", "r")])
        self.assertEqual(len(part.placed(list("fedcba"), [], [])), 8)
        fails(self, InvalidHands, part.placed, list("gfedcba"), [], [], position=None)

    def test_the_part_stays_as_it_is(self):
        part, hands, ahead, behind = added(), ["a", "b", "c"], list(AHEAD), [("tell", "b", "y")]
        first = part.placed(hands, ahead, behind)
        self.assertEqual([hands, ahead, behind, part], [["a", "b", "c"], AHEAD, [("tell", "b", "y")], added()])
        self.assertEqual(part.placed(hands, ahead, behind), first)


class WrongPlaces(unittest.TestCase):
    CALLS = (lambda *given: added().placed(*given, None), lambda *given: added().moments(*given))

    def test_hands(self):
        for call in self.CALLS:
            for value in (*NO_LISTS, [], list("abcdefg"), ["a"], ["b", "c"], ["c", "d", "e", "a"]):
                fails(self, InvalidHands, call, value, None, position=None)
            for value in (*NO_NAMES, "a"):
                fails(self, InvalidHands, call, ["a", value, None], None, position=1)
            fails(self, InvalidHands, call, ["a", "b", "A"], None, position=2)

    def test_steps_ahead(self):
        for call in self.CALLS:
            for value in NO_LISTS:
                fails(self, InvalidStep, call, ["a", "b"], value, position=None)
            for step in (None, ("own", "c", "x"), ("tell", "a", "x"), ["own", "a", "x"], ("own", "a", "q")):
                fails(self, InvalidStep, call, ["a", "b"], [("own", "a", "q"), step], position=1)

    def test_missing_ins(self):
        for call in self.CALLS:
            fails(self, MissingName, call, ["a", "b"], [], name="x", hand="a")
            fails(self, MissingName, call, ["a", "b"], [("own", "b", "x"), ("own", "a", "r")], name="x", hand="a")
            fails(self, MissingName, call, ["a", "b"], [("own", "a", "x"), ("drop", "a", "x")], name="x", hand="a")
        part = Part(Doors(5, ["b", "a"], {"y": ["a"], "x": ["b", "a"]}, {}), [])
        fails(self, MissingName, part.placed, ["a", "b"], [("own", "b", "x")], None, name="x", hand="a")
        fails(self, MissingName, part.placed, ["a", "b"], [("own", "a", "x")], None, name="x", hand="b")
        fails(self, MissingName, part.moments, ["a", "b"], [("own", "a", "x"), ("send", "a", "b", "x")], name="y", hand="a")

    def test_names_that_are_taken(self):
        own = ("own", "a", "x")
        for call in self.CALLS:
            fails(self, NameTaken, call, ["a", "b"], [("own", "a", "s"), own, ("draw", "b", "r")], name="s")
            fails(self, NameTaken, call, ["a", "b"], [own, ("draw", "b", "y"), ("draw", "b", "r")], name="y")
            fails(self, NameTaken, call, ["a", "b"], [own, ("tell", "a", "x"), ("own", "b", "r"), ("drop", "b", "r")], name="r")
        told = Part(Doors(5, ["a"], {"x": ["a"], "w": ["a"]}, {}), [("tell", "a", "x"), ("tell", "a", "w"), ("draw", "a", "r")])
        ahead = [("own", "a", "x"), ("own", "a", "w"), ("tell", "a", "x")]
        for call in (lambda steps: told.placed(["a"], steps, None), lambda steps: told.moments(["a"], steps)):
            fails(self, NameTaken, call, ahead, name="x")
            fails(self, NameTaken, call, [*ahead, ("tell", "a", "w")], name="w")
            fails(self, NameTaken, call, [*ahead, ("own", "a", "r")], name="r")
        self.assertEqual(len(added().placed(["a", "b"], [own, ("tell", "a", "x")], [])), 11)

    def test_steps_behind(self):
        for value in NO_LISTS:
            fails(self, InvalidStep, added().placed, ["a", "b", "c"], AHEAD, value, position=None)
        for step in (None, ("own", "a", "q"), ("draw", "a", "r"), ("tell", "a", "s"), ("send", "a", "b", "r"),
                     ("send", "c", "b", "s"), ("own", "b", "y"), ("want", "b", "y", Sum.of(5, r=1))):
            fails(self, InvalidStep, added().placed, ["a", "b", "c"], AHEAD, [("tell", "b", "y"), step, None], position=13)
        fails(self, InvalidStep, added().placed, ["a", "b", "c"], AHEAD, (None,), position=12)
        self.assertEqual(added().moments(["a", "b", "c"], AHEAD), (2, 9, 12))


if __name__ == "__main__":
    unittest.main()
