"""Point [14], and the functions of groups.py."""

import unittest
from itertools import combinations
from random import Random

from quietsums.errors import InvalidGroup, InvalidSum, UnknownName
from quietsums.groups import blind_groups, least_groups, listening
from quietsums.plans import Plan
from quietsums.sums import Sum
from quietsums.watches import learns
from tests.helpers import NO_LISTS, NO_NAMES, NO_SUMS, example_plan, fails, random_plan, random_sum


def groups_of(hands):
    return [group for size in range(len(hands) + 1) for group in combinations(sorted(hands), size)]


def shares(needed, hands):
    """Return a plan in which each hand gets a share of x, and so many of them know it."""
    names = ["x", "r", "s"][:needed]
    steps = [("own", "d", "x"), ("draw", "d", "r"), ("draw", "d", "s")]
    for at, hand in enumerate(hands, 1):
        total = Sum(7, {name: at ** power % 7 for power, name in enumerate(names)})
        steps += [("make", "d", "p" + hand, total), ("send", "d", hand, "p" + hand)]
    return Plan(7, ["d", *hands], steps)


class Listening(unittest.TestCase):
    def test_listening(self):
        plan = Plan(5, ["b", "c", "a"], [("own", "a", "x")])
        self.assertEqual(listening(plan, ["b", "a"]), [("a", 0, 1), ("b", 0, 1)])
        self.assertEqual(listening(group=("c",), plan=plan), [("c", 0, 1)])
        self.assertEqual(listening(plan, []), [])
        self.assertEqual(listening(Plan(5, ["a"], []), ["a"]), [("a", 0, 0)])

    def test_new_lists_each_time(self):
        plan, group = example_plan(), ["b", "a"]
        listening(plan, group).clear()
        self.assertEqual([len(listening(plan, group)), group], [2, ["b", "a"]])

    def test_wrong(self):
        for value in (*NO_LISTS, ["c"], ["a", "a"], ["a", "b", "a"], ["a", "x"], [["a"]], ("a", None)):
            fails(self, InvalidGroup, listening, example_plan(), value, value=value)
        for name in NO_NAMES:
            fails(self, InvalidGroup, listening, example_plan(), ["a", name], value=["a", name])


class LeastAndBlind(unittest.TestCase):
    def test_example(self):
        plan, x = example_plan(), Sum.of(5, x=1)
        self.assertEqual([least_groups(plan, x), blind_groups(plan, x)], [[("a",)], [("b",)]])
        self.assertEqual([least_groups(target=Sum(5, {}, 1), plan=plan), blind_groups(target=x * 0, plan=plan)], [[()], []])

    def test_shares(self):
        x = Sum.of(7, x=1)
        for needed in (1, 2, 3):
            plan = shares(needed, ["e", "c", "f", "b", "a"])
            five = ["a", "b", "c", "e", "f"]
            self.assertEqual(least_groups(plan, x), sorted([("d",), *combinations(five, needed)], key=lambda g: (len(g), g)))
            self.assertEqual(blind_groups(plan, x), list(combinations(five, needed - 1)))

    def test_told_is_learned_by_the_empty_group(self):
        plan = Plan(5, ["a", "b"], [("own", "a", "x"), ("own", "b", "y"), ("tell", "a", "x")])
        self.assertEqual(least_groups(plan, Sum.of(5, x=1)), [()])
        self.assertEqual(blind_groups(plan, Sum.of(5, x=1)), [])
        self.assertEqual(least_groups(plan, Sum.of(5, x=1, y=1)), [("b",)])
        self.assertEqual(blind_groups(plan, Sum.of(5, x=1, y=1)), [("a",)])

    def test_against_all_groups(self):
        chance = Random(12)
        for seed in range(100):
            plan = random_plan(seed)
            target = random_sum(chance, plan.modulus, plan.own_names())
            groups = groups_of(plan.hands())
            knowing = [group for group in groups if learns(plan, listening(plan, group), target)]
            least = [group for group in knowing if not [part for part in knowing if set(part) < set(group)]]
            blind = [group for group in groups if group not in knowing
                     and not [more for more in groups if set(group) < set(more) and more not in knowing]]
            self.assertEqual(least_groups(plan, target), least)
            self.assertEqual(blind_groups(plan, target), blind)

    def test_wrong(self):
        plan = example_plan()
        for call in (least_groups, blind_groups):
            for value in (*NO_SUMS, Sum.of(7, q=1)):
                fails(self, InvalidSum, call, plan, value, value=value)
            fails(self, UnknownName, call, plan, Sum.of(5, z=1, r=1), name="r")


if __name__ == "__main__":
    unittest.main()
