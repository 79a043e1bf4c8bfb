"""Points [38] and [39]: errors, copies, checks, explanations and unnoticed errors."""

import unittest
from itertools import product
from random import Random

from quietsums.errors import InvalidError, InvalidGroup, InvalidStep, MissingName, UnknownHand, UnknownName
from quietsums.plans import Plan
from quietsums.shifts import moved
from quietsums.sums import Sum
from quietsums.wrong import check, copy_of, explanation, heard_of, is_check, is_explanation, unnoticed
from tests.helpers import NO_DICTS, NO_INTEGERS, NO_LISTS, NO_NAMES, Plain, fails, random_plan, values, world_list

X = Sum.of(5, x=1)


def relayed():
    """Return a plan in which a sends x to b and c, b sends it on as y to c, and c tells a masked x."""
    steps = [("own", "a", "x"), ("send", "a", "b", "x"), ("make", "b", "y", X * 2), ("send", "b", "c", "y"),
             ("send", "a", "c", "x"), ("draw", "c", "r"), ("make", "c", "m", Sum.of(5, x=1, r=1)), ("tell", "c", "m"),
             ("send", "c", "a", "r")]
    return Plan(5, ["a", "b", "c"], steps)


def sending(plan):
    return [position for position, step in enumerate(plan.steps()) if step[0] in ("send", "tell")]


def random_error(chance, plan, most=3):
    places = sending(plan)
    return {position: chance.randrange(1, plan.modulus) for position in chance.sample(places, min(len(places), chance.randrange(most + 1)))}


def wrong_run(plan, error, world):
    """Return the copies by hand and name, and what is heard, in a run with an error, step by step."""
    modulus = plan.modulus
    copies, heard = {}, {}
    for position, step in enumerate(plan.steps()):
        if step[0] in ("own", "draw"):
            copies[step[1], step[2]] = world[step[2]]
        elif step[0] == "make":
            copies[step[1], step[2]] = step[3].at({name: copies[step[1], name] for name in step[3].names()})
        elif step[0] == "send":
            arrives = (copies[step[1], step[3]] + error.get(position, 0)) % modulus
            copies.setdefault((step[2], step[3]), arrives)
        elif step[0] == "tell":
            heard[step[2]] = (copies[step[1], step[2]] + error.get(position, 0)) % modulus
            for hand in plan.hands():
                copies.setdefault((hand, step[2]), heard[step[2]])
    return copies, heard


def base_names(plan):
    return plan.own_names() + plan.drawn_names()


def observations(plan, error, group, world):
    """Return all copies of the hands of a group, and what is heard, as one tuple."""
    copies, heard = wrong_run(plan, error, world)
    return tuple(copies[place] for place in sorted(copies) if place[0] in group) + tuple(heard[name] for name in sorted(heard))


def is_noticed(plan, error, group):
    """Tell whether no world without the error explains what is observed, by going over all worlds."""
    worlds = world_list(plan.modulus, base_names(plan))
    usual = {observations(plan, {}, group, world) for world in worlds}
    found = {observations(plan, error, group, world) in usual for world in worlds}
    assert len(found) == 1
    return not found.pop()


class Copies(unittest.TestCase):
    def test_example(self):
        plan = relayed()
        error = {1: 3, 7: 1}
        self.assertEqual(copy_of(plan, error, "a", "x"), X)
        self.assertEqual(copy_of(plan, error, "b", "x"), Sum(5, {"x": 1}, 3))
        self.assertEqual(copy_of(plan, error, "b", "y"), Sum(5, {"x": 2}, 1))
        self.assertEqual(copy_of(plan, error, "c", "y"), Sum(5, {"x": 2}, 1))
        self.assertEqual(copy_of(plan, error, "c", "x"), X)
        # The teller keeps its copy; what is heard, and what the others get, is what arrives.
        self.assertEqual(copy_of(plan, error, "c", "m"), Sum.of(5, x=1, r=1))
        self.assertEqual(copy_of(name="m", hand="b", error=error, plan=plan), Sum(5, {"x": 1, "r": 1}, 1))
        self.assertEqual(heard_of(name="m", error=error, plan=plan), Sum(5, {"x": 1, "r": 1}, 1))
        self.assertEqual(heard_of(plan, {4: 2}, "m"), Sum(5, {"x": 1, "r": 1}, 2))

    def test_first_copies_are_kept(self):
        steps = [("own", "a", "x"), ("send", "a", "b", "x"), ("send", "a", "b", "x"), ("drop", "b", "x"),
                 ("send", "a", "b", "x"), ("send", "b", "a", "x"), ("tell", "b", "x")]
        plan = Plan(5, ["a", "b", "c"], steps)
        error = {1: 1, 2: 2, 4: 3, 5: 4, 6: 2}
        self.assertEqual([copy_of(plan, error, hand, "x").constant for hand in "abc"], [0, 1, 3])
        self.assertEqual(heard_of(plan, error, "x"), Sum(5, {"x": 1}, 3))
        self.assertEqual(copy_of(plan, {4: 3}, "b", "x"), X)
        # A hand that dropped what it made itself keeps its own number, too.
        back = Plan(5, ["a", "b"], [("own", "a", "x"), ("send", "a", "b", "x"), ("drop", "a", "x"), ("send", "b", "a", "x")])
        self.assertEqual(copy_of(back, {1: 1, 3: 1}, "a", "x"), X)

    def test_constants_of_meanings(self):
        steps = [("own", "a", "x"), ("make", "a", "y", Sum(5, {"x": 1}, 4)), ("send", "a", "b", "y"),
                 ("make", "b", "z", Sum(5, {"y": 3}, 1))]
        plan = Plan(5, ["a", "b"], steps)
        self.assertEqual(copy_of(plan, {}, "b", "z"), Sum(5, {"x": 3}, 3))
        self.assertEqual(copy_of(plan, {2: 2}, "b", "z"), Sum(5, {"x": 3}, 4))

    def test_against_runs(self):
        changed = 0
        for seed in range(250):
            plan, chance = random_plan(seed, length=16), Random(seed)
            error = random_error(chance, plan)
            world = {name: chance.randrange(plan.modulus) for name in base_names(plan)}
            copies, heard = wrong_run(plan, error, world)
            usual = values(plan, world)
            for hand, name in copies:
                self.assertEqual(copy_of(plan, error, hand, name).at(world), copies[hand, name])
                self.assertEqual(copy_of(plan, {}, hand, name), plan.meaning(name))
                changed += copies[hand, name] != usual[name]
            for name in plan.told_names():
                self.assertEqual(heard_of(plan, error, name).at(world), heard[name])
            for hand in plan.hands():
                for name in plan.names():
                    if (hand, name) not in copies:
                        fails(self, MissingName, copy_of, plan, error, hand, name, name=name, hand=hand)
        self.assertGreater(changed, 50)

    def test_wrong(self):
        plan = relayed()
        for value in (*NO_NAMES, "d", "x"):
            fails(self, UnknownHand, copy_of, plan, {}, value, "q", value=value)
        for value in (*NO_NAMES, "q", "a"):
            fails(self, UnknownName, copy_of, plan, {}, "a", value, name=value)
            fails(self, UnknownName, heard_of, plan, {}, value, name=value)
        for value in ("x", "y", "r"):
            fails(self, UnknownName, heard_of, plan, {}, value, name=value)
        fails(self, MissingName, copy_of, plan, {}, "b", "r", name="r", hand="b")

    def test_wrong_errors(self):
        plan = relayed()
        calls = [lambda value: copy_of(plan, value, None, None), lambda value: heard_of(plan, value, None),
                 lambda value: check(plan, value, None), lambda value: explanation(plan, value, None),
                 lambda value: is_check(plan, value, None, None), lambda value: is_explanation(plan, value, None, None)]
        wrong = [*NO_DICTS, *({1: value} for value in (*NO_INTEGERS, 0, -1, 5, 6)), {0: 1}, {2: 1}, {5: 1}, {-1: 1}, {9: 1},
                 {1: 1, 6: 1}, {True: 1}, {"1": 1}, {None: 1}, {(1,): 1}]
        for call in calls:
            for value in wrong:
                fails(self, InvalidError, call, value, value=value)


class Checks(unittest.TestCase):
    def test_example(self):
        plan = relayed()
        # c gets 2 x by b and x by a. So it notices if one of them is wrong.
        for error in ({1: 1}, {3: 2}, {4: 4}, {1: 1, 4: 3}):
            found = check(plan, error, ["c"])
            self.assertIs(is_check(plan, error, ["c"], found), True)
            self.assertIsNone(explanation(plan, error, ["c"]))
        self.assertIsNone(check(plan, {1: 1, 4: 1}, ["c"]))
        self.assertEqual(explanation(plan, {1: 1, 4: 1}, ["c"]), {"x": 1})
        self.assertIsNone(check(plan, {1: 1}, ["b"]))
        self.assertEqual(explanation(group=("b",), error={1: 1}, plan=plan), {"r": 4, "x": 1})
        self.assertEqual([check(plan, {}, ["a", "b", "c"]), explanation(plan, {}, ["a", "b", "c"])], [None, {}])
        self.assertEqual(explanation(plan, {7: 3}, []), {"r": 3})

    def test_teller_notices(self):
        # The teller knows what it told, and hears what arrives.
        plan = relayed()
        self.assertIsNotNone(check(plan, {7: 3}, ["c"]))
        self.assertIs(is_check(plan, {7: 3}, ["c"], [("c", "m", 1), (None, "m", 4)]), True)
        self.assertIs(is_check(plan, {7: 3}, ["c"], [("c", "r", 1), ("c", "x", 1), (None, "m", 4)]), True)

    def test_check_or_explanation(self):
        kinds = {True: 0, False: 0}
        for seed in range(400):
            plan, chance = random_plan(seed, most_base=4, length=16), Random(seed)
            error = random_error(chance, plan)
            group = chance.sample(plan.hands(), chance.randrange(len(plan.hands()) + 1))
            found, shift = check(plan, error, group), explanation(plan, error, group)
            noticed = is_noticed(plan, error, group)
            self.assertEqual([found is not None, shift is None], [noticed, noticed])
            kinds[noticed and len(error) > 0] += 1
            if noticed:
                self.check_check(plan, error, group, found)
            else:
                self.check_explanation(plan, error, group, shift)
            self.assertEqual([check(plan, error, group), explanation(plan, error, group)], [found, shift])
        self.assertGreater(min(kinds.values()), 50)

    def check_check(self, plan, error, group, found):
        self.assertIs(is_check(plan, error, group, found), True)
        change, total = 0, Sum(plan.modulus, {})
        for hand, name, weight in found:
            self.assertIn(weight, range(1, plan.modulus))
            self.assertTrue(hand is None or hand in group)
            copy = heard_of(plan, error, name) if hand is None else copy_of(plan, error, hand, name)
            total = total + copy * weight
            change += (copy - plan.meaning(name)).constant * weight
        self.assertTrue(total.is_constant)
        self.assertNotEqual(change % plan.modulus, 0)

    def check_explanation(self, plan, error, group, shift):
        self.assertIs(is_explanation(plan, error, group, shift), True)
        self.assertEqual(list(shift), sorted(shift))
        for hand, name in product(group, plan.names()):
            if any(name in plan.held(hand, moment) for moment in range(len(plan) + 1)):
                wanted = (copy_of(plan, error, hand, name) - plan.meaning(name)).constant
                self.assertEqual(moved(plan.meaning(name), shift), wanted)
        for name in plan.told_names():
            self.assertEqual(moved(plan.meaning(name), shift), (heard_of(plan, error, name) - plan.meaning(name)).constant)

    def test_who_sent_nothing_wrong(self):
        many = 0
        for seed in range(300):
            plan, chance = random_plan(seed, length=18), Random(seed)
            error = random_error(chance, plan)
            wrong = {plan.steps()[position][1] for position in error}
            others = [hand for hand in plan.hands() if hand not in wrong]
            shift = explanation(plan, error, others)
            for name in shift or {}:
                maker = [step[1] for step in plan.steps() if step[0] in ("own", "draw") and step[2] == name]
                self.assertIn(maker[0], wrong)
                many += 1
        self.assertGreater(many, 20)

    def test_is_check_of_any_value(self):
        plan, error = relayed(), {1: 1}
        good = [("c", "y", 1), ("c", "x", 3)]
        self.assertIs(is_check(plan, error, ["c"], good), True)
        self.assertIs(is_check(value=tuple(good), group=("c", "a"), error=error, plan=plan), True)
        # Entries for the same copy are added.
        self.assertIs(is_check(plan, error, ["c"], [*good, ("c", "r", 2), ("c", "r", 3)]), True)
        self.assertIs(is_check(plan, error, ["c"], [("c", "y", 3), ("c", "y", 3), ("c", "x", 3)]), True)
        wrong = [*NO_LISTS, [], [good[0]], [*good, ("c", "r", 2)], [*good, None], [*good, ["c", "r", 5]], [("c", "y", 1), ("a", "x", 3)],
                 [*good, *good[:1]], [("c", "y", 1), ("c", "x", -2)], [("c", "y", 6), ("c", "x", 3)], [*good, ("c", "r", 0)],
                 [("c", "y", True), ("c", "x", 3)], [*good, ("d", "x", 1)], [*good, ("c", "q", 1)], [*good, ("c", "r")],
                 [*good, (None, "x", 1)], [*good, (None, "q", 1)], [*good, (Plain(), "x", 1)], [*good, (["c"], "x", 1)],
                 [*good, ("c", Plain(), 1)], [*good, ("c", None, 1)], [*good, (True, "x", 1)], [("c", "x", 1), ("c", "r", 1), (None, "m", 4)]]
        for value in wrong:
            self.assertIs(is_check(plan, error, ["c"], value), False, value)
        self.assertIs(is_check(plan, {}, ["c"], good), False)
        self.assertIs(is_check(plan, {1: 1, 4: 1}, ["c"], good), False)
        self.assertIs(is_check(plan, error, ["b"], good), False)
        # A name that the hand has dropped is a copy of it all the same.
        dropped = plan.extended(("drop", "c", "x"), ("drop", "c", "y"))
        self.assertIs(is_check(dropped, error, ["c"], good), True)

    def test_is_explanation_of_any_value(self):
        plan, error = relayed(), {1: 1, 4: 1}
        self.assertIs(is_explanation(plan, error, ["c"], {"x": 1}), True)
        self.assertIs(is_explanation(value={"x": 1, "r": 4}, group=["b"], error={1: 1}, plan=plan), True)
        for value in (*NO_DICTS, {}, {"x": 2}, {"x": 1, "r": 1}, {"x": 6}, {"x": -4}, {"x": True}, {"x": 1, "r": 0}, {"y": 2},
                      {"x": 1, "q": 1}, {"x": 1, "y": 2}, {"x": 1, "m": 1}, {1: 1}, {None: 1}, {"X": 1}, {"x": "1"}, {"x": 1, "a": 1}):
            self.assertIs(is_explanation(plan, error, ["c"], value), False, value)
        self.assertIs(is_explanation(plan, error, ["a", "c"], {"x": 1}), False)
        self.assertIs(is_explanation(plan, {}, ["a", "b", "c"], {}), True)

    def test_wrong_groups(self):
        plan = relayed()
        for call in (check, explanation, lambda *given: is_check(*given, None), lambda *given: is_explanation(*given, None)):
            for value in (*NO_LISTS, ["d"], ["a", "a"], ["x"], [None], [["a"]]):
                fails(self, InvalidGroup, call, plan, {1: 1}, value, value=value)
            fails(self, InvalidError, call, plan, {0: 1}, ["d"], value={0: 1})

    def test_new_values(self):
        plan = relayed()
        check(plan, {1: 1}, ["c"]).clear()
        explanation(plan, {1: 1}, ["b"]).clear()
        self.assertTrue(is_check(plan, {1: 1}, ["c"], check(plan, {1: 1}, ["c"])))
        self.assertTrue(explanation(plan, {1: 1}, ["b"]))
        error = {4: 1, 1: 1}
        explanation(plan, error, ["c"])
        self.assertEqual(list(error.items()), [(4, 1), (1, 1)])


class Unnoticed(unittest.TestCase):
    def test_example(self):
        plan = relayed()
        # To c, 2 x and x must fit: twice the error of step 1 and that of step 3 make up twice that of step 4.
        self.assertEqual(unnoticed(plan, [1, 3, 4], ["c"]), [{1: 1, 4: 1}, {3: 1, 4: 3}])
        self.assertEqual(unnoticed(group=["c"], positions=(4, 3, 1), plan=plan), [{1: 1, 4: 1}, {3: 1, 4: 3}])
        self.assertEqual(unnoticed(plan, [7], ["c"]), [])
        self.assertEqual(unnoticed(plan, [7], ["b", "a"]), [])
        self.assertEqual(unnoticed(plan, [7], ["a"]), [])
        self.assertEqual(unnoticed(plan, [7], []), [{7: 1}])
        self.assertEqual(unnoticed(plan, [7, 8], ["a"]), [{7: 1, 8: 1}])
        self.assertEqual([unnoticed(plan, [], ["a"]), unnoticed(plan, (), [])], [[], []])

    def test_step_zero_cannot_be_a_send(self):
        plan = Plan(3, ["a", "b"], [("own", "a", "x"), ("send", "a", "b", "x"), ("send", "a", "b", "x")])
        self.assertEqual(unnoticed(plan, [2, 1], ["b"]), [{1: 1}, {2: 1}])
        self.assertEqual(unnoticed(plan, [2, 1], ["a", "b"]), [{2: 1}])

    def test_basis(self):
        wide = 0
        for seed in range(200):
            plan, chance = random_plan(seed, most_base=4, length=18), Random(seed)
            group = chance.sample(plan.hands(), chance.randrange(len(plan.hands()) + 1))
            places = sending(plan)
            positions = chance.sample(places, min(len(places), 4))
            basis = unnoticed(plan, positions, group)
            firsts = [min(error) for error in basis]
            self.assertEqual(firsts, sorted(firsts))
            for error in basis:
                self.assertEqual(list(error), sorted(error))
                self.assertEqual([error[min(error)], [first for first in firsts if first in error]], [1, [min(error)]])
                self.assertTrue(all(number in range(1, plan.modulus) for number in error.values()))
            # The errors that nobody notices are just the sums of multiples of these.
            spanned = set()
            for weights in product(range(plan.modulus), repeat=len(basis)):
                total = {position: sum(weight * error.get(position, 0) for weight, error in zip(weights, basis)) % plan.modulus
                         for position in sorted(positions)}
                spanned.add(tuple(total.values()))
            for numbers in product(range(plan.modulus), repeat=len(positions)):
                error = {position: number for position, number in zip(sorted(positions), numbers) if number}
                self.assertIs(explanation(plan, error, group) is not None, numbers in spanned)
            wide += len(basis) > 1 and any(len(error) > 1 for error in basis)
        self.assertGreater(wide, 3)

    def test_wrong(self):
        plan = relayed()
        for value in NO_LISTS:
            fails(self, InvalidStep, unnoticed, plan, value, ["d"], position=None)
        for value in (*NO_INTEGERS, 0, 2, 5, 6, -1, 9, 10, 1, "1"):
            fails(self, InvalidStep, unnoticed, plan, [4, 1, value], ["d"], position=value)
        fails(self, InvalidStep, unnoticed, plan, [0, "x"], [], position=0)
        for value in (*NO_LISTS, ["d"], ["a", "a"], ["x"], [None]):
            fails(self, InvalidGroup, unnoticed, plan, [1], value, value=value)

    def test_new_lists(self):
        plan = relayed()
        found = unnoticed(plan, [1, 3, 4], ["c"])
        found[0].clear()
        found.clear()
        self.assertEqual(unnoticed(plan, [1, 3, 4], ["c"]), [{1: 1, 4: 1}, {3: 1, 4: 3}])


if __name__ == "__main__":
    unittest.main()
