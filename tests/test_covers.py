"""Point [15], and the functions of covers.py."""

import unittest
from itertools import combinations
from random import Random

from quietsums.covers import cover, fewest_seats, is_cover
from quietsums.errors import InvalidCount, InvalidSum, InvalidWatch, TooMany, UnknownName
from quietsums.plans import Plan
from quietsums.shifts import moved
from quietsums.sums import Sum
from quietsums.watches import heard, learns
from tests.helpers import NO_INTEGERS, NO_LISTS, NO_NAMES, NO_SUMS, example_plan, fails, random_plan, random_sum

X = Sum.of(5, x=1)


def pieces(many, modulus=3):
    """Return a plan in which b sees, one after the other, pieces that add up to x, and a seat for each piece."""
    steps = [("own", "a", "x")] + [("draw", "a", f"r{at}") for at in range(1, many)]
    names = [f"r{at}" for at in range(1, many)]
    steps.append(("make", "a", "r0", Sum(modulus, {"x": 1, **{name: modulus - 1 for name in names}})))
    seats = []
    for at in range(many):
        steps.append(("send", "a", "b", f"r{at}"))
        seats.append(("b", len(steps), len(steps)))
        steps.append(("drop", "b", f"r{at}"))
    return Plan(modulus, ["a", "b"], steps), seats


def some_cases(seeds):
    """Yield tuples (plan, seats, target): plans with steps of all kinds, and plans with shares of x and y."""
    for seed in seeds:
        chance = Random(seed)
        plan = random_plan(seed, 6, 18) if seed % 2 else random_shares(chance)
        seats = []
        for _ in range(chance.randrange(8)):
            begin = chance.randrange(len(plan) + 1)
            end = min(len(plan), begin + chance.randrange(3))
            seats.append((chance.choice(plan.hands()), begin, end))
        if seed % 2 == 0:
            seats = [("b", begin, end) for _, begin, end in seats]
        yield plan, seats, random_sum(chance, plan.modulus, plan.own_names())


def random_shares(chance):
    """Return a plan in which a sends b some sums of its names, one after the other; b drops each."""
    steps = [("own", "a", "x"), ("own", "a", "y"), ("draw", "a", "r"), ("draw", "a", "s")]
    for at in range(6):
        total = random_sum(chance, 3, ["x", "y", "r", "s"])
        steps += [("make", "a", f"p{at}", total), ("send", "a", "b", f"p{at}"), ("drop", "b", f"p{at}")]
    return Plan(3, ["a", "b"], steps)


def index_sets(seats, many):
    return list(combinations(range(len(seats)), min(many, len(seats))))


def judged(plan, seats, target, many, shifts):
    """Tell whether some shifts are a cover, by the words of the document."""
    told = [plan.meaning(name) for name in plan.told_names()]
    for shift in shifts:
        if moved(target, shift) == 0 or any(moved(total, shift) for total in told):
            return False
    for indexes in index_sets(seats, many):
        names = heard(plan, [seats[at] for at in indexes])
        if not any(all(moved(plan.meaning(name), shift) == 0 for name in names) for shift in shifts):
            return False
    return True


class Fewest(unittest.TestCase):
    def test_example(self):
        plan = example_plan()
        seats = [("b", 0, 4), ("a", 2, 2), ("a", 0, 4)]
        self.assertEqual(fewest_seats(plan, seats, X), [1])
        self.assertEqual(fewest_seats(plan=plan, seats=(seats[0],), target=X * 0), [])
        self.assertIsNone(fewest_seats(plan, seats[:1], X))
        self.assertIsNone(fewest_seats(plan, [], X))

    def test_pieces(self):
        for many in (1, 2, 3, 4):
            plan, seats = pieces(many)
            target = Sum.of(3, x=2)
            self.assertEqual(fewest_seats(plan, seats, target), list(range(many)) if many < 4 else None)
            self.assertEqual(fewest_seats(plan, seats[:1] + seats, target),
                             [0, *range(2, many + 1)] if many < 4 else None)

    def test_against_all_sets(self):
        sizes = set()
        for plan, seats, target in some_cases(range(200)):
            wanted = None
            for many in (3, 2, 1, 0):
                for indexes in reversed(list(combinations(range(len(seats)), many))):
                    if learns(plan, [seats[at] for at in indexes], target):
                        wanted = list(indexes)
            found = fewest_seats(plan, seats, target)
            self.assertEqual(found, wanted)
            sizes.add(None if found is None else len(found))
        self.assertLessEqual({None, 0, 1, 2}, sizes)


class Covers(unittest.TestCase):
    def test_example(self):
        plan = example_plan()
        seats = [("b", 0, 4), ("a", 2, 2)]
        self.assertIsNone(cover(plan, seats, X, 1))
        found = cover(many=0, target=X, seats=tuple(seats), plan=plan)
        self.assertEqual(len(found), 1)
        self.assertTrue(is_cover(plan, seats, X, 0, found))
        self.assertTrue(is_cover(plan, seats[:1], X, 3, cover(plan, seats[:1], X, 3)))
        self.assertIs(is_cover(value=({"x": 1, "r": 1},), many=1, target=X, seats=(seats[0],), plan=plan), True)

    def test_no_seats(self):
        plan = example_plan()
        for many in range(4):
            found = cover(plan, [], X, many)
            self.assertEqual(len(found), 1)
            self.assertIs(is_cover(plan, [], X, many, found), True)
            self.assertIs(is_cover(plan, [], X, many, []), False)
            self.assertIs(is_cover(plan, [], X, many, ()), False)
            self.assertIsNone(cover(plan, [], X * 0, many))

    def test_told_names_are_not_moved(self):
        plan = Plan(5, ["a", "b"], [("own", "a", "x"), ("own", "a", "y"), ("make", "a", "s", Sum.of(5, x=1, y=1)),
                                    ("tell", "a", "s")])
        self.assertIs(is_cover(plan, [], X, 0, [{"x": 1}]), False)
        self.assertIs(is_cover(plan, [], X, 0, [{"x": 1, "y": 4}]), True)
        self.assertTrue(is_cover(plan, [("b", 0, 4)], X, 1, cover(plan, [("b", 0, 4)], X, 1)))

    def test_against_words(self):
        lengths = set()
        for plan, seats, target in some_cases(range(150)):
            for many in range(4):
                found = cover(plan, seats, target, many)
                learned = any(learns(plan, [seats[at] for at in indexes], target)
                              for indexes in index_sets(seats, many))
                self.assertEqual(found is None, learned)
                if found is not None:
                    lengths.add(len(found))
                    self.check_thin(plan, seats, target, many, found)
        self.assertLessEqual({1, 2}, lengths)

    def check_thin(self, plan, seats, target, many, found):
        base = plan.own_names() + plan.drawn_names()
        self.assertIs(type(found), list)
        for shift in found:
            self.assertEqual(list(shift), sorted(shift))
            self.assertTrue(all(name in base and 0 < shift[name] < plan.modulus for name in shift))
        self.assertTrue(judged(plan, seats, target, many, found))
        self.assertIs(is_cover(plan, seats, target, many, found), True)
        self.assertIs(is_cover(plan, seats, target, many, found + found), True)
        for at in range(len(found)):
            self.assertIs(is_cover(plan, seats, target, many, found[:at] + found[at + 1:]), False)
        self.assertEqual(cover(plan, seats, target, many), found)

    def test_judged_like_the_words(self):
        answers = set()
        for plan, seats, target in some_cases(range(300, 340)):
            chance = Random(len(seats))
            base = plan.own_names() + plan.drawn_names()
            found = cover(plan, seats, target, 1) or []
            for _ in range(10):
                shifts = [{name: chance.randrange(1, plan.modulus) for name in base if chance.random() < 0.6}
                          for _ in range(chance.randrange(3))]
                for value in (shifts, shifts + found):
                    answer = judged(plan, seats, target, 1, value)
                    self.assertIs(is_cover(plan, seats, target, 1, value), answer)
                    answers.add(answer)
        self.assertEqual(answers, {True, False})

    def test_four_pieces(self):
        plan, seats = pieces(4)
        target = Sum.of(3, x=1)
        for many in range(4):
            self.check_thin(plan, seats, target, many, cover(plan, seats, target, many))
        self.assertEqual(len(cover(plan, seats, target, 3)), 4)

    def test_twenty_four_seats(self):
        plan, seats = pieces(24)
        target = Sum.of(3, x=1)
        self.assertIsNone(fewest_seats(plan, seats, target))
        self.check_thin(plan, seats, target, 3, cover(plan, seats, target, 3))
        same = seats[:1] * 24
        self.check_thin(plan, same, target, 3, cover(plan, same, target, 3))

    def test_new_lists_each_time(self):
        plan, seats = pieces(3)
        found = cover(plan, seats, Sum.of(3, x=1), 2)
        found[0].clear()
        found.clear()
        self.assertTrue(is_cover(plan, seats, Sum.of(3, x=1), 2, cover(plan, seats, Sum.of(3, x=1), 2)))
        self.assertEqual(seats, pieces(3)[1])

    def test_is_cover_of_any_value(self):
        plan, seats = example_plan(), [("b", 0, 4)]
        good = {"x": 1, "r": 1}
        self.assertIs(is_cover(plan, seats, X, 1, [good]), True)
        for value in NO_LISTS:
            self.assertIs(is_cover(plan, seats, X, 1, value), False)
        for value in (None, True, 0, "x", [], (), {}, {"x": 1}, {"r": 1}, {"x": 1, "r": 0}, {"x": True, "r": 1},
                      {"x": 1, "r": 6}, {"x": 1, "r": 1, "s": 1}, {"x": 1, "r": 1, "q": 1}, {1: 1}, {"X": 1}, [good]):
            self.assertIs(is_cover(plan, seats, X, 1, [value]), False, value)
            if value != {"x": 1}:
                self.assertIs(is_cover(plan, seats, X, 1, [good, value]), False, value)
        self.assertIs(is_cover(plan, seats, X, 1, [good, {"x": 1}]), True)


class WrongArguments(unittest.TestCase):
    CALLS = (fewest_seats, lambda plan, seats, target: cover(plan, seats, target, None),
             lambda plan, seats, target: is_cover(plan, seats, target, None, None))

    def test_seats(self):
        plan = example_plan()
        for call in self.CALLS:
            for value in NO_LISTS:
                fails(self, InvalidWatch, call, plan, value, None, position=None)
            for seat in (None, ["a", 0, 4], ("a", 0), ("c", 0, 4), ("a", 0, 5), ("a", 2, 1), ("a", True, 4), ("a", 0, False),
                         *[(hand, 0, 4) for hand in NO_NAMES]):
                fails(self, InvalidWatch, call, plan, [("a", 0, 4), seat, None], None, position=1)
            fails(self, InvalidWatch, call, plan, [("a", 0, 4)] * 30 + [None], None, position=30)
            fails(self, TooMany, call, plan, [("a", 0, 4)] * 25, None, limit=24)
            for value in (*NO_SUMS, Sum.of(7, q=1)):
                fails(self, InvalidSum, call, plan, [("a", 0, 4)] * 24, value, value=value)
            fails(self, UnknownName, call, plan, [], Sum.of(5, x=1, s=1, r=1), name="r")

    def test_many(self):
        plan = example_plan()
        for value in (*NO_INTEGERS, -1, 4, 24):
            fails(self, InvalidCount, cover, plan, [], X, value, value=value)
            fails(self, InvalidCount, is_cover, plan, [], X, value, None, value=value)


if __name__ == "__main__":
    unittest.main()
