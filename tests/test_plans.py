"""Points [10] and [11] (meanings), and the class Plan."""

import unittest

from quietsums.errors import (InvalidHands, InvalidModulus, InvalidMoment, InvalidStep, UnknownHand, UnknownName)
from quietsums.plans import Plan
from quietsums.sums import Sum
from tests.helpers import (MODULI, NO_INTEGERS, NO_LISTS, NO_MODULI, NO_NAMES, NO_SUMS, Plain, example_plan, fails,
                           holdings, random_plan, values, world_list)

X = Sum.of(5, x=1)


def step_fails(case, steps, position, hands=("a", "b")):
    fails(case, InvalidStep, Plan, 5, list(hands), steps, position=position)


class Creating(unittest.TestCase):
    def test_example_of_the_document(self):
        plan = example_plan()
        self.assertEqual([plan.held("b", 4), str(plan.meaning("s"))], [["s"], "4 r + x"])
        self.assertEqual([plan.modulus, len(plan), plan.hands()], [5, 4, ["a", "b"]])
        self.assertEqual([plan.names(), plan.own_names(), plan.drawn_names()], [["x", "r", "s"], ["x"], ["r"]])
        self.assertEqual(plan.told_names(), [])
        self.assertEqual(plan.steps()[2], ("make", "a", "s", Sum.of(5, x=1, r=4)))

    def test_every_modulus(self):
        for modulus in MODULI:
            total = Sum(modulus, {"x": modulus - 1}, 1)
            plan = Plan(modulus, ["a"], [("own", "a", "x"), ("make", "a", "y", total)])
            self.assertEqual([plan.modulus, plan.meaning("y")], [modulus, total])

    def test_all_kinds(self):
        steps = [("own", "b", "x"), ("draw", "a", "r"), ("send", "a", "b", "r"), ("make", "b", "y", Sum.of(5, x=2, r=1)),
                 ("want", "b", "y", Sum.of(5, x=2)), ("tell", "b", "y"), ("drop", "b", "x"), ("tell", "a", "r"),
                 ("drop", "a", "y"), ("send", "b", "a", "y")]
        plan = Plan(5, ["b", "c", "a"], steps)
        self.assertEqual(plan.names(), ["x", "r", "y"])
        self.assertEqual(plan.told_names(), ["y", "r"])
        self.assertEqual([plan.held("b", t) for t in (0, 1, 3, 4, 7, 10)],
                         [[], ["x"], ["r", "x"], ["r", "x", "y"], ["r", "y"], ["r", "y"]])
        self.assertEqual([plan.held("c", t) for t in (5, 6, 8)], [[], ["y"], ["r", "y"]])
        self.assertEqual([plan.held("a", t) for t in (6, 9, 10)], [["r", "y"], ["r"], ["r", "y"]])
        self.assertEqual(plan.holders("y", 6), ["a", "b", "c"])
        self.assertEqual(plan.holders("x", 0), [])
        self.assertEqual(plan.holders(moment=7, name="x"), [])
        self.assertEqual(plan.hands(), ["b", "c", "a"])

    def test_without_steps(self):
        for plan in (Plan(2, ["a"], []), Plan(modulus=2, hands=("a",), steps=())):
            self.assertEqual([len(plan), plan.steps(), plan.hands(), plan.names(), plan.held("a", 0)],
                             [0, [], ["a"], [], []])
            self.assertEqual(repr(plan), "Plan(2, ['a'], [])")

    def test_hand_called_like_a_name(self):
        plan = Plan(5, ["x", "y"], [("own", "x", "x"), ("draw", "y", "y"), ("send", "x", "y", "x")])
        self.assertEqual([plan.held("x", 3), plan.held("y", 3)], [["x"], ["x", "y"]])

    def test_one_to_six_hands(self):
        for many in range(1, 7):
            hands = ["f", "e", "d", "c", "b", "a"][:many]
            plan = Plan(3, hands, [("own", "f", "x"), ("tell", "f", "x")])
            self.assertEqual([plan.hands(), plan.holders("x", 2), plan.holders("x", 1)], [hands, sorted(hands), ["f"]])

    def test_constant_made_and_own_names_in_wants(self):
        steps = [("make", "a", "c", Sum(5, {}, 3)), ("own", "b", "x"), ("want", "a", "c", X), ("want", "a", "c", Sum(5, {}, 3))]
        self.assertEqual(Plan(5, ["a", "b"], steps).meaning("c"), Sum(5, {}, 3))

    def test_repr_and_equality(self):
        plan = Plan(5, ["a", "b"], [("own", "a", "x")])
        self.assertEqual(repr(plan), "Plan(5, ['a', 'b'], [('own', 'a', 'x')])")
        self.assertIn("('make', 'a', 's', Sum(5, {'r': 4, 'x': 1}, 0))", repr(example_plan()))
        self.assertTrue(plan == Plan(5, ("a", "b"), (("own", "a", "x"),)))
        self.assertTrue(example_plan() == example_plan())
        others = (Plan(5, ["b", "a"], [("own", "a", "x")]), Plan(7, ["a", "b"], [("own", "a", "x")]),
                  Plan(5, ["a", "b"], []), Plan(5, ["a", "b"], [("own", "b", "x")]), Plan(5, ["a"], [("own", "a", "x")]))
        for other in (*others, None, 0, repr(plan), plan.steps(), Plain()):
            self.assertFalse(plan == other)
            self.assertTrue(plan != other)
        one, two = ("own", "a", "x"), ("own", "a", "y")
        self.assertNotEqual(Plan(5, ["a"], [one, two]), Plan(5, ["a"], [two, one]))

    def test_copies(self):
        hands, steps = ["a", "b"], [("own", "a", "x"), ("tell", "a", "x")]
        plan = Plan(5, hands, steps)
        hands.append("c")
        steps.append(("drop", "a", "x"))
        for call in (plan.hands, plan.steps, plan.names, plan.own_names, plan.drawn_names, plan.told_names,
                     lambda: plan.held("a", 1), lambda: plan.holders("x", 2)):
            before = list(call())
            self.assertIs(type(call()), list)
            call().append("more")
            self.assertEqual(call(), before)
        self.assertEqual(plan, Plan(5, ["a", "b"], steps[:2]))

    def test_extended(self):
        plan = Plan(5, ["a", "b"], [("own", "a", "x")])
        longer = plan.extended(("send", "a", "b", "x"), ("tell", "b", "x"))
        self.assertEqual(longer, Plan(5, ["a", "b"], [("own", "a", "x"), ("send", "a", "b", "x"), ("tell", "b", "x")]))
        self.assertEqual([len(plan), plan.extended() == plan], [1, True])
        fails(self, InvalidStep, plan.extended, ("tell", "a", "x"), ("own", "b", "x"), None, position=2)
        fails(self, InvalidStep, plan.extended, [("tell", "a", "x")], position=1)


class Holding(unittest.TestCase):
    def test_against_the_table(self):
        for seed in range(60):
            plan = random_plan(seed)
            wanted = holdings(plan.hands(), plan.steps())
            for moment, held in enumerate(wanted):
                for hand in plan.hands():
                    self.assertEqual(plan.held(hand, moment), sorted(held[hand]))
                for name in plan.names():
                    self.assertEqual(plan.holders(name, moment), sorted(hand for hand in held if name in held[hand]))

    def test_dropped_and_held_again(self):
        steps = [("own", "a", "x"), ("send", "a", "b", "x"), ("send", "a", "b", "x"), ("drop", "b", "x"),
                 ("send", "a", "b", "x"), ("drop", "a", "x"), ("drop", "b", "x")]
        plan = Plan(5, ["a", "b"], steps)
        self.assertEqual([plan.held("b", t) for t in range(8)], [[], [], ["x"], ["x"], [], ["x"], ["x"], []])
        self.assertEqual([plan.held("a", t) for t in range(8)], [[], ["x"], ["x"], ["x"], ["x"], ["x"], [], []])

    def test_told_and_dropped(self):
        plan = Plan(5, ["a", "b"], [("own", "a", "x"), ("tell", "a", "x"), ("drop", "a", "x")])
        self.assertEqual([plan.held("a", 3), plan.held("b", 3), plan.told_names()], [[], ["x"], ["x"]])
        step_fails(self, [*plan.steps(), ("tell", "b", "x")], 3)
        step_fails(self, [*plan.steps(), ("send", "a", "b", "x")], 3)

    def test_wrong(self):
        plan = example_plan()
        for value in (*NO_NAMES, "c", "x"):
            fails(self, UnknownHand, plan.held, value, None, value=value)
        for value in (*NO_INTEGERS, -1, 5, 10 ** 29):
            fails(self, InvalidMoment, plan.held, "a", value, value=value)
            fails(self, InvalidMoment, plan.holders, "x", value, value=value)
        for value in (*NO_NAMES, "a", "q"):
            fails(self, UnknownName, plan.holders, value, None, name=value)
            fails(self, UnknownName, plan.meaning, value, name=value)
        self.assertEqual(plan.held(moment=0, hand="a"), [])


class Meanings(unittest.TestCase):
    def test_meanings_are_values(self):
        for seed in range(25):
            plan = random_plan(seed, 4, 12)
            base = plan.own_names() + plan.drawn_names()
            for name in plan.names():
                self.assertLessEqual(set(plan.meaning(name).names()), set(base))
            for world in world_list(plan.modulus, base):
                found = values(plan, world)
                self.assertEqual(found, {name: plan.meaning(name).at(world) for name in plan.names()})

    def test_base_names_mean_themselves(self):
        plan = example_plan()
        self.assertEqual([plan.meaning("x"), plan.meaning(name="r")], [X, Sum.of(5, r=1)])


class WrongPlans(unittest.TestCase):
    def test_modulus_and_hands(self):
        for value in NO_MODULI:
            fails(self, InvalidModulus, Plan, value, None, None, value=value)
        for value in (*NO_LISTS, [], (), list("abcdefg")):
            fails(self, InvalidHands, Plan, 5, value, None, position=None)
        for value in (*NO_NAMES, "a"):
            fails(self, InvalidHands, Plan, 5, ["a", value, None], None, position=1)

    def test_no_list_of_steps(self):
        for value in NO_LISTS:
            fails(self, InvalidStep, Plan, 5, ["a"], value, position=None)

    def test_forms(self):
        own = ("own", "a", "x")
        forms = [None, True, 0, "own", b"own", [], list(own), {}, (), ("own",), ("own", "a"), ("own", "a", "y", "z"),
                 ("Own", "a", "y"), ("give", "a", "y"), (None, "a", "y"), (["own"], "a", "y"), (True, "a", "y"),
                 ("draw", "a", "y", "z"), ("make", "a", "y"), ("make", "a", "y", X, X), ("send", "a", "b"),
                 ("send", "a", "b", "x", "x"), ("tell", "a"), ("tell", "a", "x", "x"), ("drop", "a"),
                 ("drop", "a", "x", "x"), ("want", "a", "x"), ("want", "a", "x", X, X), ("tell", "x", "a"), Plain()]
        for form in forms:
            step_fails(self, [own, form, None], 1)

    def test_hands_of_steps(self):
        for value in (*NO_NAMES, "c", "x"):
            for step in (("own", value, "y"), ("draw", value, "y"), ("make", value, "y", Sum(5, {})),
                         ("send", value, "b", "x"), ("send", "a", value, "x"), ("tell", value, "x"),
                         ("drop", value, "x"), ("want", value, "x", X)):
                step_fails(self, [("own", "a", "x"), step], 1)

    def test_names_must_be_new(self):
        for value in (*NO_NAMES, "x", "r", "s"):
            for step in (("own", "b", value), ("draw", "b", value), ("make", "b", value, Sum(5, {}))):
                step_fails(self, [*example_plan().steps(), step], 4)
        steps = [("own", "a", "x"), ("drop", "a", "x"), ("own", "a", "x")]
        step_fails(self, steps, 2)

    def test_names_must_be_held(self):
        for value in (*NO_NAMES, "a", "q", "x", "r"):
            for step in (("send", "b", "a", value), ("tell", "b", value), ("drop", "b", value), ("want", "b", value, X)):
                step_fails(self, [*example_plan().steps(), step], 4)
        step_fails(self, [("own", "a", "x"), ("drop", "a", "x"), ("drop", "a", "x")], 2)

    def test_sums_of_steps(self):
        own = [("own", "a", "x"), ("own", "b", "y"), ("draw", "a", "r"), ("make", "a", "m", X)]
        for value in (*NO_SUMS, Sum(7, {}), Sum.of(7, x=1), Sum.of(5, q=1)):
            step_fails(self, [*own, ("make", "a", "z", value)], 4)
            step_fails(self, [*own, ("want", "a", "x", value)], 4)
        step_fails(self, [*own, ("make", "a", "z", Sum.of(5, x=1, y=1))], 4)
        step_fails(self, [*own, ("make", "a", "z", Sum.of(5, z=1))], 4)
        step_fails(self, [*own, ("drop", "a", "x"), ("make", "a", "z", X)], 5)
        step_fails(self, [*own, ("want", "a", "x", Sum.of(5, r=1))], 4)
        step_fails(self, [*own, ("want", "a", "x", Sum.of(5, m=1))], 4)
        step_fails(self, [("draw", "a", "r"), ("want", "a", "r", X), ("own", "a", "x")], 1)
        self.assertEqual(len(Plan(5, ["a", "b"], [*own, ("want", "a", "r", Sum.of(5, x=1, y=1))])), 5)

    def test_send_and_tell(self):
        own = [("own", "a", "x"), ("own", "b", "y")]
        step_fails(self, [*own, ("send", "a", "a", "x")], 2)
        step_fails(self, [*own, ("send", "a", "b", "y")], 2)
        step_fails(self, [*own, ("tell", "a", "y")], 2)
        step_fails(self, [*own, ("tell", "a", "x"), ("tell", "b", "x")], 3)
        step_fails(self, [*own, ("tell", "a", "x"), ("tell", "a", "x")], 3)

    def test_the_first_wrong_step_decides(self):
        step_fails(self, [("tell", "a", "x"), None], 0)
        step_fails(self, [("own", "a", "x"), ("own", "a", "y"), ("own", "a", "x"), None], 2)


if __name__ == "__main__":
    unittest.main()
