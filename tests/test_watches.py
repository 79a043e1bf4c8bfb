"""Points [12] and [13], and the functions of watches.py."""

import unittest
from collections import Counter
from random import Random

from quietsums.errors import InvalidSum, InvalidWatch, InvalidWorld, MissingNumber, UnknownName
from quietsums.plans import Plan
from quietsums.shifts import moved
from quietsums.spaces import Space
from quietsums.sums import Sum
from quietsums.watches import (heard, hiding_shift, is_hiding_shift, is_reason, learned, learns, reason,
                               same_frequencies, view)
from tests.helpers import (NO_DICTS, NO_INTEGERS, NO_LISTS, NO_NAMES, NO_SUMS, Plain, example_plan, fails, holdings,
                           random_plan, random_sum, random_watch, values, world_list)

X = Sum.of(5, x=1)
ALL_A, ALL_B = [("a", 0, 4)], [("b", 0, 4)]


def observed(plan, watch, numbers):
    """Return how often each observation occurs over all drawn numbers."""
    names = heard(plan, watch)
    counts = Counter()
    for drawn in world_list(plan.modulus, plan.drawn_names()):
        found = values(plan, {**numbers, **drawn})
        counts[tuple(found[name] for name in names)] += 1
    return counts


def cases(seeds):
    """Yield tuples (plan, watch, chance)."""
    for seed in seeds:
        chance = Random(seed)
        plan = random_plan(seed)
        yield plan, random_watch(chance, plan), chance


class Hearing(unittest.TestCase):
    def test_example(self):
        plan = example_plan()
        self.assertEqual([heard(plan, ALL_A), heard(plan, ALL_B), heard(plan, [])], [["r", "s", "x"], ["s"], []])
        self.assertEqual(heard(watch=(("b", 0, 3), ("a", 1, 1)), plan=plan), ["x"])
        self.assertEqual(heard(plan, [("a", 0, 0)]), [])
        self.assertEqual(view(plan, ALL_B), Space(5, [Sum.of(5, r=4, x=1)]))
        self.assertEqual(learned(plan, ALL_B), Space(5, []))
        self.assertEqual(learned(watch=ALL_A, plan=plan), Space(5, [X]))

    def test_moments_of_a_seat(self):
        steps = [("own", "a", "x"), ("drop", "a", "x"), ("draw", "a", "r")]
        plan = Plan(5, ["a", "b"], steps)
        seats = {(0, 0): [], (0, 1): ["x"], (1, 1): ["x"], (1, 2): ["x"], (2, 2): [], (2, 3): ["r"], (1, 3): ["r", "x"]}
        for (begin, end), names in seats.items():
            self.assertEqual(heard(plan, [("a", begin, end)]), names)
        self.assertEqual(heard(plan, [("b", 0, 3)]), [])

    def test_told_names_are_heard_by_every_watch(self):
        plan = Plan(5, ["a", "b"], [("own", "a", "x"), ("tell", "a", "x"), ("drop", "b", "x"), ("own", "a", "y")])
        for watch in ([], [("b", 0, 0)], [("b", 3, 4)], [("a", 0, 0)]):
            self.assertEqual(heard(plan, watch), ["x"])
            self.assertEqual(learned(plan, watch), Space(5, [X]))

    def test_against_moments(self):
        for plan, watch, _ in cases(range(80)):
            moments = holdings(plan.hands(), plan.steps())
            names = set(plan.told_names())
            for hand, begin, end in watch:
                for moment in range(begin, end + 1):
                    names |= moments[moment][hand]
            self.assertEqual(heard(plan, watch), sorted(names))
            space = Space(plan.modulus, [plan.meaning(name) for name in names])
            self.assertEqual(view(plan, watch), space)
            self.assertEqual(learned(plan, watch), space.without(plan.drawn_names()))

    def test_new_lists_each_time(self):
        plan, watch = example_plan(), list(ALL_A)
        heard(plan, watch).clear()
        self.assertEqual([heard(plan, watch), watch], [["r", "s", "x"], ALL_A])


class Learning(unittest.TestCase):
    def test_example(self):
        plan = example_plan()
        self.assertIs(learns(plan, ALL_A, X), True)
        self.assertIs(learns(target=X, watch=ALL_B, plan=plan), False)
        self.assertIs(learns(plan, [], Sum(5, {}, 2)), True)
        self.assertIs(learns(plan, [*ALL_B, ("a", 2, 2)], X * 2 + Sum(5, {}, 1)), True)
        self.assertEqual(reason(plan, ALL_B, Sum(5, {}, 2)), {})
        self.assertEqual(reason(plan, [], Sum(5, {}, 2)), {})
        self.assertIsNone(reason(plan, [], X))
        self.assertIsNone(reason(plan, ALL_B, X))
        self.assertIsNone(hiding_shift(plan, ALL_A, X))

    def test_reason_or_shift(self):
        chance = Random(11)
        both = set()
        for plan, watch, _ in cases(range(300)):
            target = random_sum(chance, plan.modulus, plan.own_names())
            why, shift = reason(plan, watch, target), hiding_shift(plan, watch, target)
            self.assertEqual([why is None, shift is None], [shift is not None, why is not None])
            self.assertIs(learns(plan, watch, target), shift is None)
            self.assertEqual(learns(plan, watch, target), target in learned(plan, watch))
            if shift is None:
                both.add("reason")
                self.assertIs(is_reason(plan, watch, target, why), True)
                self.assertEqual(list(why), sorted(why))
                self.assertLessEqual(set(why), set(heard(plan, watch)))
                rest = target
                for name, number in why.items():
                    self.assertIn(number, range(1, plan.modulus))
                    rest = rest - plan.meaning(name) * number
                self.assertTrue(rest.is_constant)
            else:
                both.add("shift")
                self.assertIs(is_hiding_shift(plan, watch, target, shift), True)
                self.assertEqual(list(shift), sorted(shift))
                self.assertLessEqual(set(shift), set(plan.own_names() + plan.drawn_names()))
                self.assertNotEqual(moved(target, shift), 0)
                self.assertTrue(all(moved(plan.meaning(name), shift) == 0 for name in heard(plan, watch)))
            self.assertEqual([reason(plan, watch, target), hiding_shift(plan, watch, target)], [why, shift])
        self.assertEqual(both, {"reason", "shift"})

    def test_is_reason_of_any_value(self):
        plan = example_plan()
        watch = [("b", 4, 4), ("a", 2, 2)]
        self.assertIs(is_reason(plan, watch, X, {"x": 1}), True)
        self.assertIs(is_reason(value={"s": 1, "r": 1}, target=X, watch=watch, plan=plan), True)
        self.assertIs(is_reason(plan, watch, Sum(5, {"x": 2}, 3), {"x": 2}), True)
        for value in (*NO_DICTS, {}, {"x": 2}, {"x": 0}, {"x": 1, "r": 0}, {"x": 6}, {"x": -4}, {"x": True}, {"s": 1},
                      {"s": 1, "r": 2}, {1: 1}, {"X": 1}, {"x": 1, "q": 1}, {None: 1}, {"x": "1"}):
            self.assertIs(is_reason(plan, watch, X, value), False, value)
        self.assertIs(is_reason(plan, ALL_B, X, {"x": 1}), False)
        self.assertIs(is_reason(plan, ALL_B, Sum(5, {}, 1), {}), True)
        self.assertIs(is_reason(plan, ALL_B, Sum(5, {}, 1), {"x": 1}), False)

    def test_is_hiding_shift_of_any_value(self):
        plan = example_plan()
        self.assertIs(is_hiding_shift(plan, ALL_B, X, {"x": 1, "r": 1}), True)
        self.assertIs(is_hiding_shift(value={"x": 4, "r": 4}, target=X, watch=ALL_B, plan=plan), True)
        for value in (*NO_DICTS, {}, {"x": 1}, {"r": 1}, {"x": 1, "r": 2}, {"x": 1, "r": 1, "s": 1},
                      {"x": 1, "r": 1, "q": 1}, {"x": 1, "r": 1, "a": 0}, {"x": 1, "r": 6}, {"x": 1, "r": True},
                      {"x": True, "r": True}, {1: 1}, {"x": -4, "r": 1}):
            self.assertIs(is_hiding_shift(plan, ALL_B, X, value), False, value)
        self.assertIs(is_hiding_shift(plan, ALL_A, X, {"x": 1, "r": 1}), False)


class Frequencies(unittest.TestCase):
    def test_example(self):
        plan = example_plan()
        self.assertIs(same_frequencies(plan, ALL_B, {"x": 0}, {"x": 3}), True)
        self.assertIs(same_frequencies(others={"x": 3}, numbers={"x": 0}, watch=ALL_A, plan=plan), False)
        self.assertIs(same_frequencies(plan, ALL_A, {"x": 3, "r": 1}, {"x": 3, "q": 2}), True)

    def test_counted(self):
        for plan, watch, _ in cases(range(100)):
            numbers = world_list(plan.modulus, plan.own_names())[:27]
            counts = [observed(plan, watch, one) for one in numbers]
            for one, count in zip(numbers, counts):
                for other, other_count in zip(numbers, counts):
                    self.assertIs(same_frequencies(plan, watch, one, other), count == other_count)

    def test_learned_sums_are_what_frequencies_tell(self):
        for plan, watch, chance in cases(range(100, 160)):
            worlds = world_list(plan.modulus, plan.own_names())
            if len(worlds) > 27:
                continue
            counts = [frozenset(observed(plan, watch, one).items()) for one in worlds]
            for _ in range(3):
                target = random_sum(chance, plan.modulus, plan.own_names())
                answers = {}
                for world, count in zip(worlds, counts):
                    answers.setdefault(count, set()).add(target.at(world))
                told = all(len(answer) == 1 for answer in answers.values())
                self.assertIs(learns(plan, watch, target), told)

    def test_wrong(self):
        plan = Plan(5, ["a"], [("own", "a", "y"), ("draw", "a", "r"), ("own", "a", "x")])
        good = {"x": 1, "y": 2}
        for value in (*NO_DICTS, {"q": 5}, {"x": True, "y": 1}, {"X": 1}, {1: 1}, {"x": None}):
            fails(self, InvalidWorld, same_frequencies, plan, [], value, None, value=value)
            fails(self, InvalidWorld, same_frequencies, plan, [], good, value, value=value)
        fails(self, MissingNumber, same_frequencies, plan, [], {"r": 1}, None, name="y")
        fails(self, MissingNumber, same_frequencies, plan, [], {"y": 1}, {}, name="x")
        fails(self, MissingNumber, same_frequencies, plan, [], good, {"y": 1}, name="x")
        fails(self, InvalidWatch, same_frequencies, plan, None, None, None, position=None)


class WrongArguments(unittest.TestCase):
    CALLS = (learns, reason, hiding_shift, lambda plan, watch, target: is_reason(plan, watch, target, None),
             lambda plan, watch, target: is_hiding_shift(plan, watch, target, None))
    WATCH_CALLS = (heard, view, learned, lambda plan, watch: same_frequencies(plan, watch, {"x": 0}, {"x": 0}),
                   *[lambda plan, watch, call=call: call(plan, watch, None) for call in CALLS])

    def test_watches(self):
        plan = example_plan()
        for call in self.WATCH_CALLS:
            for value in NO_LISTS:
                fails(self, InvalidWatch, call, plan, value, position=None)
            seats = [None, True, 0, "a", [], (), ["a", 0, 4], ("a",), ("a", 0), ("a", 0, 4, 4), ("c", 0, 4), ("x", 0, 4),
                     ("a", -1, 4), ("a", 0, 5), ("a", 3, 2), ("a", 5, 5), {"a": 1}, (0, 4, "a"), Plain()]
            seats += [(hand, 0, 4) for hand in NO_NAMES]
            seats += [("a", begin, 4) for begin in NO_INTEGERS] + [("a", 0, end) for end in NO_INTEGERS]
            for seat in seats:
                fails(self, InvalidWatch, call, plan, [("a", 0, 4), ("a", 0, 4), seat, None], position=2)
            fails(self, InvalidWatch, call, plan, ("a", 0, 4), position=0)

    def test_targets(self):
        plan = example_plan()
        for call in self.CALLS:
            for value in (*NO_SUMS, Sum(7, {}), Sum.of(7, q=1)):
                fails(self, InvalidSum, call, plan, [], value, value=value)
            fails(self, UnknownName, call, plan, [], Sum.of(5, x=1, z=1, q=1), name="q")
            fails(self, UnknownName, call, plan, [], Sum.of(5, r=1), name="r")
            fails(self, UnknownName, call, plan, [], Sum.of(5, x=1, s=1), name="s")
            fails(self, UnknownName, call, plan, [], Sum.of(5, a=1), name="a")


if __name__ == "__main__":
    unittest.main()
