"""Point [26]: joined ladders and joined parts."""

import unittest
from random import Random

from quietsums.around import form_of, joined
from quietsums.doors import Doors
from quietsums.errors import OtherDoors, TooMany
from quietsums.ladders import Ladder
from quietsums.parts import Part
from quietsums.spaces import Relations, Space
from quietsums.sums import Sum
from tests.door_helpers import random_ladder, random_part

X, Y, Z = Sum.of(3, x=1), Sum.of(3, y=1), Sum.of(3, z=1)


def drawn(doors, mark=""):
    """Return a part in which the outs are drawn and sent, and one more name."""
    steps = [("draw", doors.hands()[0], "own" + mark)] if mark else []
    for name in doors.outs():
        first, *others = doors.holders(name)
        steps += [("draw", first, name)] + [("send", first, other, name) for other in others]
    return Part(doors, steps)


def random_pair(chance, modulus=None):
    """Return doors that can be joined: some outs of the first are ins of the second, some ins are shared."""
    hands = ["b", "a", "c"][:chance.randrange(1, 4)]
    one, other = ({}, {}), ({}, {})
    for name in ["x", "y", "z", "w", "v"][:chance.randrange(6)]:
        holders = chance.sample(hands, chance.randrange(1, len(hands) + 1))
        places = chance.choice(([one[0]], [one[1]], [other[0]], [other[1]], [one[0], other[0]], [one[1], other[0]],
                                [one[1], other[0]]))
        for place in places:
            place[name] = chance.sample(holders, len(holders))
    modulus = modulus or chance.choice((2, 3))
    return Doors(modulus, hands, *one), Doors(modulus, reversed_list(hands), *other)


def reversed_list(hands):
    return list(reversed(hands))


class Joined(unittest.TestCase):
    def test_step_by_step(self):
        one = Part(Doors(3, ["a", "b"], {"x": ["a"]}, {"y": ["b"], "w": ["a"]}),
                   [("draw", "a", "w"), ("make", "a", "y", Sum.of(3, x=1, w=1)), ("send", "a", "b", "y")])
        other = Part(Doors(3, ["b", "a"], {"x": ["a"], "y": ["b"]}, {"z": ["b"]}),
                     [("send", "a", "b", "x"), ("make", "b", "z", Sum.of(3, x=2, y=1))])
        both = joined(one, other)
        self.assertEqual(both.doors, Doors(3, ["a", "b"], {"x": ["a"]}, {"w": ["a"], "z": ["b"]}))
        self.assertEqual(both.steps(), one.steps() + other.steps())
        self.assertEqual(both.meaning("z"), Sum.of(3, w=1))
        self.assertEqual(joined(other=form_of(other), one=form_of(one)), form_of(both))
        self.assertEqual(form_of(both).relations, Relations(3, [Sum.of(3, w=1, z=2)]))

    def test_inner_names_disappear(self):
        one = Part(Doors(3, ["a", "b"], {"x": ["a"]}, {"y": ["b", "a"]}), [("make", "a", "y", X), ("send", "a", "b", "y")])
        other = Part(Doors(3, ["a", "b"], {"y": ["a", "b"]}, {"z": ["a"]}), [("make", "a", "z", Y * 2)])
        both = joined(form_of(one), form_of(other))
        self.assertEqual([both.doors.ins(), both.doors.outs()], [["x"], ["z"]])
        self.assertEqual([both.relations, both.space(["b"])], [Relations(3, [Z + X]), Space(3, [X, Z])])
        self.assertEqual(both, form_of(joined(one, other)))

    def test_nothing_in_common(self):
        one = form_of(drawn(Doors(3, ["a"], {"x": ["a"]}, {})))
        other = form_of(drawn(Doors(3, ["a"], {}, {"y": ["a"]})))
        self.assertEqual(joined(one, other), form_of(drawn(Doors(3, ["a"], {"x": ["a"]}, {"y": ["a"]}))))
        self.assertEqual(joined(one, one), one)
        empty = form_of(Part(Doors(3, ["a"], {}, {}), []))
        self.assertEqual([joined(one, empty), joined(empty, one), joined(empty, empty)], [one, one, empty])
        self.assertEqual(joined(Part(empty.doors, []), Part(empty.doors, [])), Part(empty.doors, []))

    def test_the_form_of_joined_parts(self):
        inner = 0
        for seed in range(150):
            doors, other_doors = random_pair(Random(seed))
            one, other = random_part(seed, doors), random_part(seed + 1000, other_doors, mark="q")
            if set(one.told_names()) & set(other.told_names()):
                continue
            both = joined(one, other)
            self.assertEqual(both.steps(), one.steps() + other.steps())
            self.assertEqual(joined(form_of(one), form_of(other)), form_of(both))
            inner += len(set(one.doors.outs()) & set(other.doors.ins())) > 0
        self.assertGreater(inner, 30)

    def test_ladders_by_the_words(self):
        for seed in range(120):
            one, other = [random_ladder(seed + at, doors) for at, doors in enumerate(random_pair(Random(seed)))]
            both = joined(one, other)
            inner = set(one.doors.outs()) & set(other.doors.ins())
            for kind in (Doors.ins, Doors.outs):
                names = set(kind(one.doors)) | set(kind(other.doors))
                self.assertEqual(kind(both.doors), sorted(names - inner))
            for name in both.doors.names():
                self.assertEqual(both.doors.holders(name), (one if name in one.doors else other).doors.holders(name))
            self.assertEqual(both.relations, one.relations.joined(other.relations).without(sorted(inner)))
            for group, space in both.walk():
                self.assertEqual(space, one.space(group).joined(other.space(group)).without(sorted(inner)))

    def test_ten_doors(self):
        one = Doors(3, ["a"], {f"x{at}": ["a"] for at in range(5)}, {f"y{at}": ["a"] for at in range(5)})
        for many in (5, 4):
            other = Doors(3, ["a"], {f"y{at}": ["a"] for at in range(5)}, {f"z{at}": ["a"] for at in range(many)})
            self.assertEqual(len(joined(drawn(one), drawn(other)).doors.names()), 5 + many)
            self.assertEqual(len(joined(form_of(drawn(one)), form_of(drawn(other))).doors.names()), 5 + many)
        other = Doors(3, ["a"], {f"y{at}": ["a"] for at in range(4)}, {f"z{at}": ["a"] for at in range(5)})
        for first, second in ((one, other), (one, Doors(3, ["a"], {"q": ["a"]}, {})), (one, Doors(3, ["a"], {}, {"q": ["a"]}))):
            fails(self, TooMany, first, second, limit=10)


def fails(case, error, one, other, **wanted):
    """Check that neither ladders nor parts over some doors can be joined."""
    for first, second in ((drawn(one, "p"), drawn(other, "q")), (form_of(drawn(one)), form_of(drawn(other)))):
        with case.assertRaises(error) as caught:
            joined(first, second)
        case.assertIs(type(caught.exception), error)
        case.assertEqual({name: getattr(caught.exception, name) for name in wanted}, wanted)


class NotJoined(unittest.TestCase):
    def test_modulus_and_hands(self):
        one = Doors(3, ["a", "b"], {"x": ["a"]}, {})
        for other in (Doors(5, ["a", "b"], {"x": ["a"]}, {}), Doors(3, ["a"], {"x": ["a"]}, {}), Doors(3, ["a", "c"], {}, {"x": ["a"]}),
                      Doors(3, ["a", "b", "c"], {}, {})):
            fails(self, OtherDoors, one, other, name=None)

    def test_doors_of_both(self):
        one = Doors(3, ["a", "b"], {"w": ["a"], "x": ["a"]}, {"y": ["b"], "z": ["a", "b"]})
        for ins, outs, name in (({"x": ["b"]}, {}, "x"), ({"x": ["a", "b"]}, {}, "x"), ({"y": ["a"]}, {}, "y"),
                                ({"z": ["b"]}, {}, "z"), ({}, {"y": ["b"]}, "y"), ({}, {"x": ["a"]}, "x"),
                                ({"x": ["b"], "z": ["b"]}, {"y": ["b"]}, "x"), ({"x": ["a"]}, {"z": ["a", "b"], "y": ["b"]}, "y"),
                                ({"w": ["a"], "z": ["b", "a"]}, {"y": ["b"]}, "y"), ({}, {"w": ["a"]}, "w")):
            fails(self, OtherDoors, one, Doors(3, ["b", "a"], ins, outs), name=name)
        fine = Doors(3, ["a", "b"], {"w": ["a"], "z": ["b", "a"], "y": ["b"]}, {})
        self.assertEqual(joined(form_of(drawn(one)), form_of(drawn(fine))).doors, Doors(3, ["a", "b"], {"w": ["a"], "x": ["a"]}, {}))

    def test_other_doors_come_before_too_many(self):
        one = Doors(3, ["a"], {f"x{at}": ["a"] for at in range(10)}, {})
        fails(self, OtherDoors, one, Doors(3, ["a"], {}, {**{f"y{at}": ["a"] for at in range(5)}, "x3": ["a"]}), name="x3")

    def test_further_names_in_common(self):
        doors = Doors(3, ["a"], {"x": ["a"]}, {})
        out = Doors(3, ["a"], {"x": ["a"]}, {"r": ["a"]})
        one = Part(doors, [("draw", "a", "s"), ("draw", "a", "r")])
        for part, name in ((one, "r"), (drawn(out), "r"), (Part(doors, [("make", "a", "s", X)]), "s"),
                           (Part(Doors(3, ["a"], {"r": ["a"]}, {}), []), "r")):
            self.not_joined(one, part, name)
            self.not_joined(part, one, name)
        self.assertEqual(joined(form_of(one), form_of(drawn(out))).doors, out)
        self.assertEqual(len(joined(one, Part(doors, [("draw", "a", "t")]))), 3)

    def test_names_that_both_tell(self):
        doors = Doors(3, ["a", "b"], {"x": ["a"], "w": ["b"]}, {})
        told = Part(doors, [("tell", "b", "w"), ("tell", "a", "x")])
        self.not_joined(told, told, "w")
        self.not_joined(told, Part(doors, [("tell", "a", "x")]), "x")
        out = Part(Doors(3, ["a", "b"], {}, {"x": ["a"]}), [("draw", "a", "x"), ("tell", "a", "x")])
        self.not_joined(out, Part(Doors(3, ["a", "b"], {"x": ["a"]}, {}), [("tell", "a", "x")]), "x")
        self.assertEqual(len(joined(told, Part(doors, []))), 2)
        self.assertEqual(len(joined(out, Part(Doors(3, ["a", "b"], {"x": ["a"]}, {}), [("send", "a", "b", "x")]))), 3)

    def not_joined(self, one, other, name):
        with self.assertRaises(OtherDoors) as caught:
            joined(one, other)
        self.assertEqual(caught.exception.name, name)

    def test_arguments_stay(self):
        doors = Doors(3, ["a"], {}, {"y": ["a"]})
        spaces = {(): Space(3, []), ("a",): Space(3, [Y])}
        one = Ladder(doors, Relations(3, []), spaces)
        other = form_of(Part(Doors(3, ["a"], {"y": ["a"]}, {}), []))
        self.assertEqual(joined(one, other), joined(one, other))
        self.assertEqual(one, Ladder(doors, Relations(3, []), spaces))


if __name__ == "__main__":
    unittest.main()
