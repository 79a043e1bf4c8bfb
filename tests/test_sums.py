"""Points [2] and [5], and the class Sum."""

import unittest
from collections import OrderedDict, defaultdict
from random import Random

from quietsums.errors import (InvalidModulus, InvalidNumber, InvalidSum, InvalidText, InvalidWeights, InvalidWorld,
                              MissingNumber, OtherModulus)
from quietsums.sums import Sum
from tests.helpers import (MODULI, NO_DICTS, NO_INTEGERS, NO_MODULI, NO_NAMES, NO_SUMS, Plain, fails, random_sum,
                           world_list)


class Creating(unittest.TestCase):
    def test_parts(self):
        total = Sum(5, {"y": 1, "x": 2, "z": 0}, 3)
        self.assertEqual([total.modulus, total.constant, total.is_constant], [5, 3, False])
        self.assertEqual(list(total.weights().items()), [("x", 2), ("y", 1)])
        self.assertEqual(total.names(), ["x", "y"])
        self.assertEqual([total.weight("x"), total.weight("z"), total.weight("q")], [2, 0, 0])
        self.assertEqual(Sum(modulus=5, weights={"x": 2, "y": 1}, constant=3), total)
        self.assertEqual(Sum(5, {"x": 1}).constant, 0)

    def test_weight_of_any_value_is_zero(self):
        for value in NO_NAMES:
            self.assertEqual(Sum.of(5, x=1).weight(value), 0)

    def test_is_constant(self):
        for total in (Sum(5, {}), Sum(5, {}, 2), Sum(5, {"x": 0}, 2), Sum.of(5, x=1) - Sum.of(5, x=1)):
            self.assertIs(total.is_constant, True)
        self.assertIs(Sum.of(5, x=1).is_constant, False)

    def test_every_modulus(self):
        for modulus in MODULI:
            total = Sum(modulus, {"x": modulus - 1}, modulus - 1)
            self.assertEqual(str(total), f"{modulus - 1} x + {modulus - 1}" if modulus > 2 else "x + 1")
            self.assertEqual(total * modulus, Sum(modulus, {}))
            fails(self, InvalidWeights, Sum, modulus, {"x": modulus}, value={"x": modulus})
            fails(self, InvalidNumber, Sum, modulus, {}, modulus, value=modulus)

    def test_of(self):
        self.assertEqual(Sum.of(7, x=2, self=3, weights=1), Sum(7, {"x": 2, "self": 3, "weights": 1}))
        self.assertEqual(Sum.of(modulus=7, constant=3), Sum(7, {"constant": 3}, 0))
        self.assertEqual(Sum.of(7), Sum(7, {}))
        fails(self, InvalidModulus, lambda: Sum.of(6, x=9), value=6)
        fails(self, InvalidWeights, lambda: Sum.of(7, x=7), value={"x": 7})
        fails(self, InvalidWeights, lambda: Sum.of(7, X=1), value={"X": 1})

    def test_wrong_modulus(self):
        for value in NO_MODULI:
            fails(self, InvalidModulus, Sum, value, None, None, value=value)
            fails(self, InvalidModulus, Sum.of, value, value=value)
            fails(self, InvalidModulus, Sum.parse, value, None, value=value)

    def test_wrong_weights(self):
        for value in NO_DICTS:
            fails(self, InvalidWeights, Sum, 5, value, None, value=value)
        for number in (*NO_INTEGERS, -1, 5, 10 ** 29):
            fails(self, InvalidWeights, Sum, 5, {"a": 1, "x": number}, value={"a": 1, "x": number})
        for name in [value for value in NO_NAMES if not isinstance(value, (list, dict, Plain))]:
            fails(self, InvalidWeights, Sum, 5, {"a": 1, name: 1}, value={"a": 1, name: 1})
        fails(self, InvalidWeights, Sum, 5, {"x": 5}, 5, value={"x": 5})

    def test_wrong_constant(self):
        for value in (*NO_INTEGERS, -1, 5):
            fails(self, InvalidNumber, Sum, 5, {}, value, value=value)

    def test_names(self):
        for name in ("a", "z", "a0", "z9z9", "abcdefghijkl", "q12345678901"):
            self.assertEqual(Sum(2, {name: 1}).names(), [name])

    def test_copies(self):
        weights = {"x": 1}
        total = Sum(5, weights)
        weights["y"] = 2
        total.weights()["z"] = 1
        total.names().append("z")
        self.assertEqual(total, Sum.of(5, x=1))
        self.assertIsNot(total.weights(), total.weights())
        self.assertIsNot(total.names(), total.names())
        self.assertEqual(weights, {"x": 1, "y": 2})

    def test_other_dicts(self):
        table = defaultdict(int, {"x": 1})
        self.assertEqual(Sum(5, OrderedDict(y=2, x=1)), Sum(5, {"x": 1, "y": 2}))
        fails(self, MissingNumber, Sum.of(5, x=1, y=1).at, table, name="y")
        self.assertEqual(Sum.of(5, x=1, y=1).put(defaultdict(lambda: Sum(5, {}))), Sum.of(5, x=1, y=1))
        self.assertEqual(dict(table), {"x": 1})

    def test_equality(self):
        total = Sum(5, {"x": 1, "y": 2}, 3)
        self.assertTrue(total == Sum(5, {"y": 2, "x": 1, "z": 0}, 3))
        self.assertFalse(total != Sum(5, {"y": 2, "x": 1}, 3))
        others = (Sum(7, {"x": 1, "y": 2}, 3), Sum(5, {"x": 1, "y": 2}, 4), Sum(5, {"x": 1, "y": 3}, 3), Sum(5, {"x": 1}, 3))
        for other in (*others, *NO_SUMS, str(total), total.weights()):
            self.assertFalse(total == other)
            self.assertTrue(total != other)
        self.assertNotEqual(Sum(2, {}), 0)


class Texts(unittest.TestCase):
    TEXTS = (("0", Sum(5, {})), ("3", Sum(5, {}, 3)), ("x", Sum.of(5, x=1)), ("x + 1", Sum(5, {"x": 1}, 1)),
             ("2 x + y + 3", Sum(5, {"y": 1, "x": 2}, 3)), ("4 a10 + a2", Sum.of(5, a2=1, a10=4)))

    def test_texts(self):
        for text, total in self.TEXTS:
            self.assertEqual(str(total), text)
            self.assertEqual(Sum.parse(5, text), total)
        self.assertEqual(Sum.parse(text="12 x", modulus=13), Sum.of(13, x=12))

    def test_repr(self):
        self.assertEqual(repr(Sum(5, {"y": 1, "x": 2}, 3)), "Sum(5, {'x': 2, 'y': 1}, 3)")
        self.assertEqual(repr(Sum(2, {})), "Sum(2, {}, 0)")

    def test_written_and_read_back(self):
        chance = Random(1)
        for modulus in MODULI:
            for _ in range(30):
                total = random_sum(chance, modulus, ["x", "a", "b12", "zz", "abcdefghijkl"])
                self.assertEqual(Sum.parse(modulus, str(total)), total)

    def test_wrong_texts(self):
        wrong = ("", " ", "+", "0 x", "1 x", "5", "5 x", "6 x", "-1", "x + 0", "0 + x", "1 + x", "y + x", "x + x",
                 "x + 2 x", "1 + 1", "2 x + 3 x", "x+y", "x +y", "x  + y", " x", "x ", "x\n", "2  x", "2x", "2 X", "X",
                 "x + ", " + x", "02 x", "x + 03", "2 x y", "2 3", "x 2", "+2", "2 x +", "x + y + ", "00", "²", "１",
                 "2\tx", "abcdefghijklm", "2 ", " 2")
        for text in (*wrong, None, True, False, 0, 3, b"x", [], ["x"], ("x",), {}, Sum.of(5, x=1), Plain()):
            fails(self, InvalidText, Sum.parse, 5, text, line=1)
        fails(self, InvalidText, Sum.parse, 2, "2 x", line=1)


class Adding(unittest.TestCase):
    def test_signs(self):
        one, other = Sum(5, {"x": 2, "y": 1}, 4), Sum(5, {"x": 3, "z": 1}, 3)
        self.assertEqual(one + other, Sum(5, {"y": 1, "z": 1}, 2))
        self.assertEqual((one + other).names(), ["y", "z"])
        self.assertEqual(one - other, Sum(5, {"x": 4, "y": 1, "z": 4}, 1))
        self.assertEqual(-one, Sum(5, {"x": 3, "y": 4}, 1))
        self.assertEqual(one * 2, Sum(5, {"x": 4, "y": 2}, 3))
        self.assertEqual([one * 0, one * 5], [Sum(5, {}), Sum(5, {})])
        self.assertEqual([one * -1, one * 7, one * 10 ** 29], [-one, one * 2, Sum(5, {})])
        self.assertEqual([one, other], [Sum(5, {"x": 2, "y": 1}, 4), Sum(5, {"x": 3, "z": 1}, 3)])

    def test_by_values(self):
        chance = Random(2)
        for modulus in (2, 3, 5):
            for world in world_list(modulus, ["x", "y"]):
                one, other = random_sum(chance, modulus, ["x", "y"]), random_sum(chance, modulus, ["x", "y"])
                times = chance.randrange(-20, 20)
                self.assertEqual((one + other).at(world), (one.at(world) + other.at(world)) % modulus)
                self.assertEqual((one - other).at(world), (one.at(world) - other.at(world)) % modulus)
                self.assertEqual((one * times).at(world), one.at(world) * times % modulus)
                self.assertEqual((-one).at(world), -one.at(world) % modulus)

    def test_wrong(self):
        total = Sum.of(5, x=1)
        for value in NO_SUMS:
            fails(self, InvalidSum, lambda: total + value, value=value)
            fails(self, InvalidSum, lambda: total - value, value=value)
        fails(self, OtherModulus, lambda: total + Sum(7, {}), given=7, expected=5)
        fails(self, OtherModulus, lambda: total - Sum(7, {}), given=7, expected=5)
        for value in (*NO_INTEGERS, total):
            fails(self, InvalidNumber, lambda: total * value, value=value)


class Values(unittest.TestCase):
    def test_at(self):
        total = Sum(5, {"x": 2, "y": 4}, 3)
        self.assertEqual(total.at({"y": 2, "x": 1, "z": 4}), 3)
        self.assertEqual(total.at(world={"x": 0, "y": 0}), 3)
        self.assertEqual(Sum(5, {}, 4).at({}), 4)

    def test_at_wrong(self):
        total = Sum.of(5, x=1, y=1)
        for value in NO_DICTS:
            fails(self, InvalidWorld, total.at, value, value=value)
        for world in ({"z": 5}, {"x": True, "y": 1}, {"x": -1}, {"Z": 1}, {1: 1}, {"x": 1, "y": 1, "z": False},
                      {"x": "1"}, {"x": None}):
            fails(self, InvalidWorld, total.at, world, value=world)
        fails(self, MissingNumber, total.at, {}, name="x")
        fails(self, MissingNumber, total.at, {"x": 1, "a": 1}, name="y")
        fails(self, MissingNumber, Sum.of(5, b=1, a=1).at, {"c": 1}, name="a")

    def test_put(self):
        total = Sum(5, {"x": 2, "y": 1}, 1)
        swapped = total.put({"x": Sum.of(5, y=1), "y": Sum(5, {"x": 1}, 2)})
        self.assertEqual(swapped, Sum(5, {"x": 1, "y": 2}, 3))
        self.assertEqual(total.put({"x": Sum.of(5, x=3, y=2), "q": Sum.of(5, r=1)}), Sum(5, {"x": 1}, 1))
        self.assertEqual(total.put(sums={"x": Sum(5, {}, 4)}), Sum(5, {"y": 1}, 4))
        self.assertEqual(total.put({}), total)

    def test_put_by_values(self):
        chance = Random(3)
        for world in world_list(3, ["x", "y", "z"]):
            total = random_sum(chance, 3, ["x", "y", "z"])
            sums = {name: random_sum(chance, 3, ["x", "y", "z"]) for name in ("x", "z")}
            inner = {"y": world["y"], **{name: part.at(world) for name, part in sums.items()}}
            self.assertEqual(total.put(sums).at(world), total.at(inner))

    def test_put_wrong(self):
        total = Sum.of(5, x=1)
        for value in NO_DICTS:
            fails(self, InvalidWorld, total.put, value, value=value)
        for part in (*NO_SUMS, Sum(7, {})):
            with self.assertRaises(InvalidWorld) as caught:
                total.put({"z": part})
            self.assertIs(caught.exception.value["z"], part)
        fails(self, InvalidWorld, total.put, {"Z": total}, value={"Z": total})
        fails(self, InvalidWorld, total.put, {1: total}, value={1: total})


if __name__ == "__main__":
    unittest.main()
