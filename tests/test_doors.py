"""Point [18], and the class Doors."""

import unittest
from itertools import combinations
from random import Random

from quietsums.doors import Doors
from quietsums.errors import InvalidDoors, InvalidGroup, InvalidHands, InvalidModulus, TooMany, UnknownName
from tests.door_helpers import random_doors
from tests.helpers import MODULI, NO_DICTS, NO_LISTS, NO_MODULI, NO_NAMES, Plain, fails


def many(count, prefix="x", hand="a"):
    return {f"{prefix}{at}": [hand] for at in range(count)}


class Asking(unittest.TestCase):
    def setUp(self):
        self.doors = Doors(5, ["c", "a", "b"], {"x": ["b", "a"], "w": ["c"]}, {"y": ("c",), "a": ["c", "a", "b"]})

    def test_names(self):
        doors = self.doors
        self.assertEqual([doors.modulus, doors.hands()], [5, ["a", "b", "c"]])
        self.assertEqual([doors.ins(), doors.outs(), doors.names()], [["w", "x"], ["a", "y"], ["a", "w", "x", "y"]])

    def test_holders(self):
        doors = self.doors
        self.assertEqual([doors.holders("x"), doors.holders("y"), doors.holders(name="a")], [["a", "b"], ["c"], ["a", "b", "c"]])

    def test_held(self):
        doors = self.doors
        self.assertEqual([doors.held([]), doors.held(["b"]), doors.held(("c", "b"))], [[], ["a", "x"], ["a", "w", "x", "y"]])
        self.assertEqual(doors.held(group=["c"]), ["a", "w", "y"])

    def test_held_against_holders(self):
        for seed in range(40):
            doors = random_doors(Random(seed), 4, 5)
            for group in doors.groups():
                wanted = [name for name in doors.names() if set(doors.holders(name)) & set(group)]
                self.assertEqual(doors.held(group), wanted)

    def test_groups(self):
        for count in range(1, 5):
            hands = ["d", "b", "a", "c"][:count]
            groups = [group for size in range(count + 1) for group in combinations(sorted(hands), size)]
            found = Doors(2, hands, {}, {}).groups()
            self.assertEqual(found, groups)
            self.assertEqual([len(found), {type(group) for group in found}], [2 ** count, {tuple}])

    def test_in(self):
        for name in ("x", "w", "y", "a"):
            self.assertIs(name in self.doors, True)
        for value in (*NO_NAMES, "b", "c", "z", ["x"], {"x": 1}):
            self.assertIs(value in self.doors, False)

    def test_repr(self):
        self.assertEqual(repr(Doors(5, ["b", "a"], {"x": ("a",)}, {"y": ["b"]})), "Doors(5, ['a', 'b'], {'x': ['a']}, {'y': ['b']})")
        self.assertEqual(repr(self.doors), "Doors(5, ['a', 'b', 'c'], {'w': ['c'], 'x': ['a', 'b']}, "
                                           "{'a': ['a', 'b', 'c'], 'y': ['c']})")
        self.assertEqual(repr(Doors(2, ["a"], {}, {})), "Doors(2, ['a'], {}, {})")

    def test_equality(self):
        same = Doors(modulus=5, outs={"a": ("a", "b", "c"), "y": ["c"]}, ins={"w": ("c",), "x": ["a", "b"]}, hands=("b", "c", "a"))
        self.assertTrue(self.doors == same)
        doors = Doors(5, ["a", "b"], {"x": ["a"]}, {"y": ["b"]})
        others = (Doors(7, ["a", "b"], {"x": ["a"]}, {"y": ["b"]}), Doors(5, ["a", "b", "c"], {"x": ["a"]}, {"y": ["b"]}),
                  Doors(5, ["a", "b"], {"x": ["b"]}, {"y": ["b"]}), Doors(5, ["a", "b"], {"x": ["a"]}, {"y": ["a", "b"]}),
                  Doors(5, ["a", "b"], {"x": ["a"], "y": ["b"]}, {}), Doors(5, ["a", "b"], {"x": ["a"]}, {}),
                  Doors(5, ["a", "b"], {"z": ["a"]}, {"y": ["b"]}), Doors(5, ["a", "b"], {}, {"x": ["a"], "y": ["b"]}))
        for other in (*others, None, 0, repr(doors), "x", Plain()):
            self.assertFalse(doors == other)
            self.assertTrue(doors != other)

    def test_copies(self):
        hands, ins, outs = ["a", "b"], {"x": ["a"]}, {"y": ["b"]}
        doors = Doors(5, hands, ins, outs)
        hands.append("c")
        ins["x"].append("b")
        ins["z"] = ["a"]
        outs.clear()
        self.assertEqual(doors, Doors(5, ["a", "b"], {"x": ["a"]}, {"y": ["b"]}))
        for call in (doors.hands, doors.ins, doors.outs, doors.names, doors.groups, lambda: doors.holders("x"), lambda: doors.holders("y"),
                     lambda: doors.held(["a"])):
            before = list(call())
            self.assertIs(type(call()), list)
            call().append("more")
            self.assertEqual(call(), before)

    def test_edges(self):
        for modulus in MODULI:
            doors = Doors(modulus, ["x"], {}, {"x": ["x"]})
            self.assertEqual([doors.modulus, doors.held(["x"]), doors.held([])], [modulus, ["x"], []])
        empty = Doors(3, ("a", "b"), {}, {})
        self.assertEqual([empty.ins(), empty.outs(), empty.names(), empty.held(["a", "b"])], [[], [], [], []])
        self.assertEqual(len(Doors(3, ["a"], many(10), {}).names()), 10)
        self.assertEqual(len(Doors(3, ["a"], {}, many(10)).names()), 10)
        self.assertEqual(len(Doors(3, ["a"], many(4), many(6, "y")).names()), 10)


class WrongDoors(unittest.TestCase):
    def test_modulus(self):
        for value in NO_MODULI:
            fails(self, InvalidModulus, Doors, value, None, None, None, value=value)

    def test_hands(self):
        for value in (*NO_LISTS, [], (), list("abcde")):
            fails(self, InvalidHands, Doors, 5, value, None, None, position=None)
        for value in (*NO_NAMES, "a"):
            fails(self, InvalidHands, Doors, 5, ["a", value, None], None, None, position=1)

    def test_ins_and_outs(self):
        wrong = [*NO_DICTS, {"x": []}, {"x": ()}, {"x": ["c"]}, {"x": ["x"]}, {"x": ["a", "a"]}, {"x": ["a"], "y": []},
                 {"x": ["a", "b", "a"]}, {"y": {"a": 1}}, {"y": "a"}, {"y": None}, {"y": True}, {"y": [["a"]]}]
        wrong += [{name: ["a"]} for name in NO_NAMES if not isinstance(name, (list, dict, Plain))]
        wrong += [{"x": ["a", name]} for name in NO_NAMES] + [{"x": held} for held in NO_LISTS]
        for value in wrong:
            fails(self, InvalidDoors, Doors, 5, ["a", "b"], value, None, value=value)
            fails(self, InvalidDoors, Doors, 5, ["a", "b"], {"z": ["a"]}, value, value=value)

    def test_an_in_that_is_an_out(self):
        for holders in (["a"], ["b"]):
            outs = {"y": ["a"], "x": holders}
            fails(self, InvalidDoors, Doors, 5, ["a", "b"], {"x": ["a"]}, outs, value=outs)
        outs = {"x0": ["a"], **many(10, "y")}
        fails(self, InvalidDoors, Doors, 5, ["a"], many(10), outs, value=outs)

    def test_too_many(self):
        fails(self, TooMany, Doors, 5, ["a"], many(11), {}, limit=10)
        fails(self, TooMany, Doors, 5, ["a"], {}, many(11), limit=10)
        fails(self, TooMany, Doors, 5, ["a"], many(5), many(6, "y"), limit=10)
        fails(self, InvalidDoors, Doors, 5, ["a"], many(11), None, value=None)

    def test_questions(self):
        doors = Doors(5, ["a", "b"], {"x": ["a"]}, {"y": ["b"]})
        for value in (*NO_NAMES, "a", "z"):
            fails(self, UnknownName, doors.holders, value, name=value)
        for value in (*NO_LISTS, ["c"], ["a", "a"], ["x"], ["a", None], [["a"]], ("a", "b", "a")):
            fails(self, InvalidGroup, doors.held, value, value=value)


if __name__ == "__main__":
    unittest.main()
