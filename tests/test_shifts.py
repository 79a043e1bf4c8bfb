"""Point [9], and the functions of shifts.py."""

import unittest
from random import Random

from quietsums.errors import InvalidShift, InvalidSum, InvalidSums
from quietsums.shifts import combination, is_combination, is_separation, moved, separation
from quietsums.spaces import Space
from quietsums.sums import Sum
from tests.helpers import (MODULI, NO_DICTS, NO_INTEGERS, NO_LISTS, NO_NAMES, NO_SUMS, Plain, fails, random_sum)

NAMES = ("v", "x", "y", "z")


def cases():
    """Yield tuples (modulus, sums, target) with one sum or more."""
    chance = Random(8)
    for turn in range(200):
        modulus = MODULI[turn % len(MODULI)]
        sums = [random_sum(chance, modulus, NAMES) for _ in range(chance.randrange(1, 5))]
        target = random_sum(chance, modulus, NAMES)
        if turn % 3 == 0:
            target = multiples_added(chance, modulus, sums)
        yield modulus, sums, target


def multiples_added(chance, modulus, sums):
    """Return some sum of multiples of the sums, and a constant."""
    total = Sum(modulus, {}, 1)
    for part in sums:
        total = total + part * chance.randrange(modulus)
    return total


class Combinations(unittest.TestCase):
    def test_example(self):
        sums = [Sum.of(5, x=1, y=1), Sum(5, {"y": 2}, 3)]
        self.assertEqual(combination(sums, Sum.of(5, x=1)), [1, 2])
        self.assertEqual(combination(target=Sum.of(5, x=1), sums=tuple(sums)), [1, 2])
        self.assertIsNone(combination(sums, Sum.of(5, z=1)))
        self.assertIs(is_combination(sums, Sum.of(5, x=1), [1, 2]), True)
        self.assertIs(is_combination(value=(1, 2), target=Sum.of(5, x=1), sums=tuple(sums)), True)
        self.assertEqual(sums, [Sum.of(5, x=1, y=1), Sum(5, {"y": 2}, 3)])

    def test_one_of_both(self):
        for modulus, sums, target in cases():
            space = Space(modulus, sums)
            found = combination(sums, target)
            shift = separation(space, target)
            self.assertEqual(found is None, target not in space)
            self.assertEqual(shift is None, target in space)
            if shift is None:
                self.assertTrue(is_combination(sums, target, found))
                self.assertEqual(combination(sums, target), found)
                rest = target
                for number, total in zip(found, sums):
                    rest = rest - total * number
                self.assertEqual([rest.names(), type(found), len(found)], [[], list, len(sums)])
                self.assertTrue(all(type(number) is int and 0 <= number < modulus for number in found))
            else:
                self.assertTrue(is_separation(space, target, shift))
                self.assertEqual(list(shift), sorted(shift))
                self.assertTrue(all(type(number) is int and 0 < number < modulus for number in shift.values()))
                self.assertNotEqual(moved(target, shift), 0)
                self.assertEqual([moved(total, shift) for total in sums], [0] * len(sums))

    def test_equal_and_constant_sums(self):
        total = Sum.of(5, x=1)
        self.assertTrue(is_combination([total, total], total, combination([total, total], total)))
        self.assertIs(is_combination([total, total], total, [3, 3]), True)
        self.assertIs(is_combination([total], Sum(5, {}, 4), [0]), True)
        self.assertEqual(combination([Sum(5, {}, 2)], Sum(5, {}, 4))[0] in range(5), True)
        self.assertIs(is_combination([Sum(5, {}, 2)], Sum(5, {}, 4), [4]), True)
        self.assertIsNone(combination([Sum(5, {}, 2)], total))

    def test_is_combination_of_any_value(self):
        sums = [Sum.of(5, x=1), Sum.of(5, y=1)]
        target = Sum.of(5, x=1)
        self.assertIs(is_combination(sums, target, [1, 0]), True)
        for value in (*NO_LISTS, [], [1], [1, 0, 0], [1, 1], [0, 0], [-4, 0], [6, 0], [1, 5], [1, -5],
                      *[[1, other] for other in NO_INTEGERS], [True, 0], [1, False]):
            self.assertIs(is_combination(sums, target, value), False, value)

    def test_wrong(self):
        target = Sum.of(5, x=1)
        for call in (combination, lambda sums, target: is_combination(sums, target, [1])):
            for value in (*NO_LISTS, [], ()):
                fails(self, InvalidSums, call, value, None, position=None)
            for value in NO_SUMS:
                fails(self, InvalidSums, call, [value, None], None, position=0)
                fails(self, InvalidSums, call, [target, value, None], None, position=1)
            fails(self, InvalidSums, call, [target, target, Sum(7, {})], Sum(7, {}), position=2)
            for value in (*NO_SUMS, Sum(7, {})):
                fails(self, InvalidSum, call, [target], value, value=value)


class Separations(unittest.TestCase):
    def test_example(self):
        space = Space(5, [Sum.of(5, x=1, y=1)])
        target = Sum(5, {"x": 1}, 3)
        self.assertIs(is_separation(space, target, {"x": 1, "y": 4}), True)
        self.assertIs(is_separation(value={"x": 2, "y": 3, "q": 1}, target=target, space=space), True)
        self.assertEqual(moved(target, separation(target=target, space=space)) != 0, True)
        self.assertIsNone(separation(space, Sum(5, {"x": 2, "y": 2}, 1)))
        self.assertIsNone(separation(Space(5, []), Sum(5, {}, 1)))
        self.assertEqual(list(separation(Space(5, []), Sum.of(5, q=2))), ["q"])

    def test_returns_new_dicts(self):
        space, target = Space(5, []), Sum.of(5, x=1)
        shift = separation(space, target)
        shift.clear()
        self.assertTrue(is_separation(space, target, separation(space, target)))

    def test_is_separation_of_any_value(self):
        space, target = Space(5, [Sum.of(5, x=1, y=1)]), Sum.of(5, x=1)
        for value in (*NO_DICTS, {}, {"x": 1}, {"y": 1}, {"x": 0, "y": 0}, {"x": 1, "y": 4, "z": 0}, {"x": 1, "y": -1},
                      {"x": 6, "y": 4}, {"x": 1, "y": 4, "Z": 1}, {"x": 1, "y": 4, 1: 1}, {"x": 1, "y": True},
                      {"x": True, "y": 4}, {"z": 1}, {"x": "1", "y": 4}):
            self.assertIs(is_separation(space, target, value), False, value)

    def test_wrong(self):
        space = Space(5, [])
        for value in (*NO_SUMS, Sum(7, {})):
            fails(self, InvalidSum, separation, space, value, value=value)
            fails(self, InvalidSum, is_separation, space, value, None, value=value)


class Moves(unittest.TestCase):
    def test_moved(self):
        total = Sum(5, {"x": 2, "y": 1}, 3)
        self.assertEqual(moved(total, {"x": 1, "y": 4, "z": 2}), 1)
        self.assertEqual(moved(shift={"z": 2}, target=total), 0)
        self.assertEqual(moved(total, {}), 0)
        self.assertEqual(moved(Sum(2, {"x": 1}), {"x": 1}), 1)
        self.assertEqual(moved(Sum(13, {"x": 7}), {"x": 12}), 6)

    def test_moved_is_a_difference_of_values(self):
        for modulus, sums, _ in cases():
            chance = Random(len(sums))
            shift = {name: chance.randrange(1, modulus) for name in NAMES[:3]}
            world = {name: chance.randrange(modulus) for name in NAMES}
            after = {name: (world[name] + shift.get(name, 0)) % modulus for name in NAMES}
            for total in sums:
                self.assertEqual(moved(total, shift), (total.at(after) - total.at(world)) % modulus)

    def test_wrong(self):
        total = Sum.of(5, x=1)
        for value in NO_SUMS:
            fails(self, InvalidSum, moved, value, None, value=value)
        for value in (*NO_DICTS, {"x": 0}, {"x": 5}, {"x": -1}, {"X": 1}, {1: 1}, {"q": 0}):
            fails(self, InvalidShift, moved, total, value, value=value)
        for number in NO_INTEGERS:
            fails(self, InvalidShift, moved, total, {"x": number}, value={"x": number})
        for name in [value for value in NO_NAMES if not isinstance(value, (list, dict, Plain))]:
            fails(self, InvalidShift, moved, total, {name: 1}, value={name: 1})


if __name__ == "__main__":
    unittest.main()
