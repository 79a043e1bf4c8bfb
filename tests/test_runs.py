"""Point [11], and the functions of runs.py."""

import unittest

from quietsums.errors import InvalidStep, InvalidWorld, MissingNumber
from quietsums.plans import Plan
from quietsums.runs import breaking_world, run, wants
from quietsums.sums import Sum
from tests.helpers import NO_DICTS, NO_INTEGERS, NO_NAMES, Plain, example_plan, fails, random_plan, values, world_list


def base_names(plan):
    return plan.own_names() + plan.drawn_names()


class Runs(unittest.TestCase):
    def test_example_of_the_document(self):
        found = run(example_plan(), {"x": 3, "r": 1})
        self.assertEqual(list(found.items()), [("r", 1), ("s", 2), ("x", 3)])

    def test_against_steps(self):
        for seed in range(25):
            plan = random_plan(seed, 4, 12)
            for world in world_list(plan.modulus, base_names(plan)):
                self.assertEqual(run(plan, world), values(plan, world))
                self.assertEqual(list(run(plan, world)), sorted(plan.names()))

    def test_further_names_have_no_effect(self):
        world = {"x": 3, "r": 1, "s": 4, "q": 2}
        self.assertEqual(run(world=world, plan=example_plan()), {"r": 1, "s": 2, "x": 3})
        self.assertEqual(world, {"x": 3, "r": 1, "s": 4, "q": 2})
        self.assertEqual(run(Plan(5, ["a"], []), {"q": 1}), {})

    def test_wrong(self):
        plan = Plan(5, ["a"], [("draw", "a", "y"), ("own", "a", "z"), ("own", "a", "x")])
        for value in NO_DICTS:
            fails(self, InvalidWorld, run, plan, value, value=value)
        for number in (*NO_INTEGERS, -1, 5):
            fails(self, InvalidWorld, run, plan, {"q": number}, value={"q": number})
        for name in [value for value in NO_NAMES if not isinstance(value, (list, dict, Plain))]:
            fails(self, InvalidWorld, run, plan, {name: 1}, value={name: 1})
        fails(self, MissingNumber, run, plan, {}, name="y")
        fails(self, MissingNumber, run, plan, {"y": 1, "q": 1}, name="z")
        fails(self, MissingNumber, run, plan, {"y": 1, "z": 1}, name="x")


class Wants(unittest.TestCase):
    def plan(self):
        steps = [("own", "a", "x"), ("draw", "a", "r"), ("want", "a", "r", Sum.of(5, x=1)),
                 ("make", "a", "y", Sum(5, {"x": 1, "r": 1}, 2)), ("make", "a", "z", Sum.of(5, y=1, r=4)),
                 ("want", "a", "z", Sum(5, {"x": 1}, 2)), ("want", "a", "z", Sum.of(5, x=1)),
                 ("want", "a", "z", Sum(5, {"x": 2}, 2))]
        return Plan(5, ["a"], steps)

    def test_wants(self):
        self.assertEqual(wants(self.plan()), [(2, False), (5, True), (6, False), (7, False)])
        self.assertEqual(wants(plan=example_plan()), [])

    def test_worlds_that_break(self):
        plan = self.plan()
        self.assertIsNone(breaking_world(plan, 5))
        for position in (2, 6, 7):
            world = breaking_world(position=position, plan=plan)
            self.assertEqual(list(world), ["r", "x"])
            step = plan.steps()[position]
            self.assertNotEqual(run(plan, world)[step[2]], step[3].at(world))

    def test_against_all_worlds(self):
        found = set()
        for seed in range(120):
            plan = random_plan(seed, 4, 12)
            worlds = world_list(plan.modulus, base_names(plan))
            positions = [at for at, step in enumerate(plan.steps()) if step[0] == "want"]
            truths = []
            for position in positions:
                _, _, name, total = plan.steps()[position]
                truths.append(all(values(plan, world)[name] == total.at(world) for world in worlds))
                world = breaking_world(plan, position)
                self.assertEqual(world is None, truths[-1])
                if world is not None:
                    self.assertEqual(sorted(world), sorted(base_names(plan)))
                    self.assertEqual(list(world), sorted(world))
                    self.assertNotEqual(values(plan, world)[name], total.at(world))
                    self.assertEqual(breaking_world(plan, position), world)
            self.assertEqual(wants(plan), list(zip(positions, truths)))
            found |= set(truths)
        self.assertEqual(found, {True, False})

    def test_wrong_positions(self):
        plan = self.plan()
        for value in (*NO_INTEGERS, -1, -3, 0, 1, 3, 4, 8, 100, "want", ("want", "a", "z", Sum.of(5, x=1))):
            fails(self, InvalidStep, breaking_world, plan, value, position=value)


if __name__ == "__main__":
    unittest.main()
