"""Point [22], ladders as one of [26], and the class Ladder."""

import inspect
import unittest
from itertools import permutations
from random import Random

from quietsums.around import form_of
from quietsums.doors import Doors
from quietsums.errors import InvalidGroup, InvalidName, InvalidRelations, InvalidSpaces, NameTaken, TiedIns
from quietsums.ladders import Ladder
from quietsums.spaces import Relations, Space
from quietsums.sums import Sum
from tests.door_helpers import part_holdings, random_ladder, random_part
from tests.helpers import NO_DICTS, NO_LISTS, NO_NAMES, NO_SUMS, Plain, fails

X, Y, Z = Sum.of(3, x=1), Sum.of(3, y=1), Sum.of(3, z=1)


def three_doors():
    """Return doors: a holds x, b holds y, b gets z."""
    return Doors(3, ["b", "a"], {"x": ["a"], "y": ["b"]}, {"z": ["b"]})


def three_spaces(relation=Z - X - Y):
    """Return the spaces of the least ladder with one relation, in which b gets z."""
    return {(): Space(3, [relation]), ("b",): Space(3, [relation, Y, Z]), ("a",): Space(3, [relation, X]),
            ("a", "b"): Space(3, [X, Y, Z])}


def three():
    return Ladder(three_doors(), Relations(3, [Z - X - Y]), three_spaces())


def spaces_fail(case, group, **changes):
    """Check which group is not as it must be if some spaces are changed."""
    names = {"none": (), "a": ("a",), "b": ("b",), "ab": ("a", "b")}
    spaces = {**three_spaces(), **{names[key]: value for key, value in changes.items()}}
    fails(case, InvalidSpaces, Ladder, three_doors(), Relations(3, [Z - X - Y]), spaces, group=group)


class Asking(unittest.TestCase):
    def test_properties_and_spaces(self):
        ladder = three()
        self.assertEqual([ladder.doors, ladder.relations], [three_doors(), Relations(3, [Z - X - Y])])
        self.assertEqual([ladder.space([]), ladder.space(("a",)), ladder.space(group=["b", "a"])],
                         [Space(3, [Z - X - Y]), Space(3, [X, Z - Y]), Space(3, [X, Y, Z])])
        self.assertEqual(ladder.space(["a", "b"]), ladder.space(("b", "a")))

    def test_walk(self):
        walk = three().walk()
        self.assertTrue(inspect.isgenerator(walk))
        found = list(walk)
        self.assertEqual([group for group, _ in found], [(), ("a",), ("b",), ("a", "b")])
        self.assertEqual(found, [(group, three().space(group)) for group in three().doors.groups()])
        self.assertEqual({type(entry) for entry in found}, {tuple})
        self.assertEqual(list(three().walk()), found)

    def test_repr(self):
        doors = Doors(3, ["a"], {"x": ["a"]}, {})
        spaces = {("a",): Space(3, [X]), (): Space(3, [])}
        self.assertEqual(repr(Ladder(doors, Relations(3, []), spaces)),
                         "Ladder(Doors(3, ['a'], {'x': ['a']}, {}), Relations(3, []), "
                         "{(): Space(3, []), ('a',): Space(3, [Sum(3, {'x': 1}, 0)])})")
        inner = ", ".join(f"{group!r}: {space!r}" for group, space in three().walk())
        self.assertEqual(repr(three()), f"Ladder({three_doors()!r}, {three().relations!r}, {{{inner}}})")

    def test_equality(self):
        self.assertTrue(three() == Ladder(relations=Relations(3, [Z * 2 - X * 2 - Y * 2]), spaces=three_spaces(), doors=three_doors()))
        more = {**three_spaces(), ("a",): Space(3, [X, Y, Z])}
        less = Ladder(three_doors(), Relations(3, []), three_spaces())
        doors = Doors(3, ["b", "a"], {"x": ["a"]}, {"z": ["b"], "y": ["b"]})
        others = (Ladder(three_doors(), Relations(3, [Z - X - Y]), more), less,
                  Ladder(doors, Relations(3, [Z - X - Y]), three_spaces()),
                  Ladder(three_doors(), Relations(3, [Z - X - Y + Sum(3, {}, 1)]), three_spaces()))
        for other in (*others, None, 0, repr(three()), three_spaces(), Plain()):
            self.assertFalse(three() == other)
            self.assertTrue(three() != other)

    def test_copies(self):
        spaces = three_spaces()
        ladder = Ladder(three_doors(), Relations(3, [Z - X - Y]), spaces)
        spaces.clear()
        self.assertEqual(ladder, three())
        self.assertEqual(ladder.space(["a"]), Space(3, [X, Z - Y]))

    def test_forms_are_ladders(self):
        for seed in range(80):
            form = form_of(random_part(seed))
            self.assertEqual(Ladder(form.doors, form.relations, dict(form.walk())), form)
            whole = form.space(form.doors.hands())
            self.assertEqual(whole, Space.everything(form.doors.modulus, form.doors.names()))

    def test_edges(self):
        empty = Ladder(Doors(2, ["a"], {}, {}), Relations(2, []), {(): Space(2, []), ("a",): Space(2, [])})
        self.assertEqual([empty.space([]), empty.space(["a"]), len(list(empty.walk()))], [Space(2, []), Space(2, []), 2])
        doors = Doors(2, ["a"], {}, {"z": ["a"]})
        z = Sum.of(2, z=1)
        fixed = Ladder(doors, Relations(2, [z + Sum(2, {}, 1)]), {(): Space(2, [z]), ("a",): Space(2, [z])})
        self.assertEqual(fixed.relations.basis(), [Sum(2, {"z": 1}, 1)])

    def test_ten_doors(self):
        doors = Doors(3, list("abcd"), {f"x{at}": ["abcd"[at % 4]] for at in range(5)}, {f"y{at}": ["a"] for at in range(5)})
        ladder = random_ladder(7, doors)
        self.assertEqual([len(list(ladder.walk())), ladder.space(list("dcba")).dimension], [16, 10])

    def test_wrong_groups(self):
        for value in (*NO_LISTS, ["c"], ["a", "a"], ["x"], ["a", None], [["a"]]):
            fails(self, InvalidGroup, three().space, value, value=value)


class WrongLadders(unittest.TestCase):
    def test_relations(self):
        for value in (*NO_SUMS, Space(3, []), [Z - X - Y], Relations(5, []), Relations(5, [Sum.of(5, x=1)]),
                      Relations(3, [Sum.of(3, r=1)]), Relations(3, [Z + Sum.of(3, a=1)])):
            fails(self, InvalidRelations, Ladder, three_doors(), value, None, value=value)

    def test_tied_ins(self):
        for sums, relation in (([X], X), ([X + Y * 2, Z], X + Y * 2), ([Z + X, Z - Y * 2], X + Y * 2),
                               ([Y * 2 + Sum(3, {}, 1)], Y + Sum(3, {}, 2)), ([Y, X + Y], X)):
            fails(self, TiedIns, Ladder, three_doors(), Relations(3, sums), None, relation=relation)
        fails(self, InvalidRelations, Ladder, three_doors(), Relations(3, [X, Sum.of(3, r=1)]), None,
              value=Relations(3, [X, Sum.of(3, r=1)]))

    def test_no_such_dict(self):
        full = three_spaces()
        values = [*NO_DICTS, {}, list(full.items()), {**full, ("b", "a"): full[("a", "b")]}, {**full, ("c",): full[()]},
                  {group: space for group, space in full.items() if group != ()}, {**full, None: full[()]},
                  {group if group != ("a", "b") else ("b", "a"): space for group, space in full.items()},
                  {"".join(group): space for group, space in full.items()}]
        for value in values:
            fails(self, InvalidSpaces, Ladder, three_doors(), Relations(3, [Z - X - Y]), value, group=None)
        turned = dict(reversed(list(full.items())))
        self.assertEqual(Ladder(three_doors(), Relations(3, [Z - X - Y]), turned), three())

    def test_no_spaces_of_door_sums(self):
        for value in (*NO_SUMS, Relations(3, [Z - X - Y]), Space(5, []), Space(3, [Z - X - Y, Sum.of(3, r=1)])):
            spaces_fail(self, (), none=value, a=None)
            spaces_fail(self, ("a",), a=value)
            spaces_fail(self, ("b",), b=value, ab=None)
            spaces_fail(self, ("a", "b"), ab=value)

    def test_what_spaces_lack(self):
        spaces_fail(self, (), none=Space(3, []), b=None)
        spaces_fail(self, (), none=Space(3, [Z - X + Y]))
        spaces_fail(self, ("a",), a=Space(3, [Z - X - Y]))
        spaces_fail(self, ("b",), b=Space(3, [Z - X - Y, Y]), ab=None)
        spaces_fail(self, ("b",), b=Space(3, [Y, Z]))
        spaces_fail(self, ("a", "b"), ab=Space(3, [X, Y]))
        spaces_fail(self, ("a",), none=Space(3, [Z - X - Y, Z]), ab=None)
        spaces_fail(self, ("b",), none=Space(3, [Z, X - Y * 2]), a=Space(3, [X, Y, Z]), b=Space(3, [Y, Z + X, X * 0]))

    def test_spaces_within_groups(self):
        doors = Doors(3, ["a", "b", "c"], {"x": ["a"]}, {"y": ["b"], "z": ["c"]})
        spaces = {group: Space(3, [Sum.of(3, **{name: 1}) for name in doors.held(group)]) for group in doors.groups()}
        self.assertEqual(len(list(Ladder(doors, Relations(3, []), spaces).walk())), 8)
        spaces[("b",)] = Space(3, [Y, X + Z])
        fails(self, InvalidSpaces, Ladder, doors, Relations(3, []), spaces, group=("a", "b"))
        spaces[("a", "b")] = Space(3, [X, Y, Z])
        fails(self, InvalidSpaces, Ladder, doors, Relations(3, []), spaces, group=("b", "c"))
        spaces[("b", "c")] = Space(3, [X, Y, Z])
        self.assertEqual(Ladder(doors, Relations(3, []), spaces).space(["b"]), Space(3, [Y, X + Z]))


class AsOne(unittest.TestCase):
    def test_ordinary(self):
        doors = Doors(3, ["a", "b", "c"], {"x": ["a"], "w": ["c"]}, {"y": ["a", "b"], "z": ["b", "c"]})
        ladder = random_ladder(3, doors)
        one = ladder.as_one(["c", "b"], "both")
        self.assertEqual(one.doors, Doors(3, ["a", "both"], {"x": ["a"], "w": ["both"]}, {"y": ["a", "both"], "z": ["both"]}))
        self.assertEqual(one.relations, ladder.relations)
        self.assertEqual(list(one.walk()), [((), ladder.space([])), (("a",), ladder.space(["a"])),
                                            (("both",), ladder.space(["b", "c"])), (("a", "both"), ladder.space(["a", "b", "c"]))])
        self.assertEqual(ladder.as_one(name="both", hands=("b", "c")), one)

    def test_by_the_words(self):
        for seed in range(60):
            ladder, chance = random_ladder(seed), Random(seed)
            hands = ladder.doors.hands()
            together = chance.sample(hands, chance.randrange(1, len(hands) + 1))
            name = chance.choice([*together, "new1", "new2"])
            one = ladder.as_one(together, name)
            self.assertEqual(one.doors.hands(), sorted({hand for hand in hands if hand not in together} | {name}))
            for group, space in one.walk():
                inside = [hand for hand in group if hand != name] + (together if name in group else [])
                self.assertEqual(space, ladder.space(inside))
            for door in ladder.doors.names():
                held = {name if hand in together else hand for hand in ladder.doors.holders(door)}
                self.assertEqual(one.doors.holders(door), sorted(held))
            self.assertEqual([one.doors.ins(), one.doors.outs()], [ladder.doors.ins(), ladder.doors.outs()])

    def test_one_hand_is_only_renamed(self):
        ladder = three()
        self.assertEqual(ladder.as_one(["a"], "a"), ladder)
        self.assertEqual(ladder.as_one(["a"], "c").as_one(["c"], "a"), ladder)
        self.assertEqual(ladder.as_one(["b", "a"], "a").doors.hands(), ["a"])

    def test_wrong(self):
        ladder = three()
        for value in (*NO_LISTS, [], (), ["c"], ["a", "a"], ["a", None], [["a"]]):
            fails(self, InvalidGroup, ladder.as_one, value, None, value=value)
        for value in NO_NAMES:
            fails(self, InvalidName, ladder.as_one, ["a"], value, value=value)
        for value in ("b", "x", "y", "z"):
            fails(self, NameTaken, ladder.as_one, ["a"], value, name=value)
        for value in ("x", "z"):
            fails(self, NameTaken, ladder.as_one, ["a", "b"], value, name=value)
        named = Ladder(Doors(3, ["a"], {}, {"a": ["a"]}), Relations(3, []), {(): Space(3, []), ("a",): Space(3, [Sum.of(3, a=1)])})
        fails(self, NameTaken, named.as_one, ["a"], "a", name="a")


if __name__ == "__main__":
    unittest.main()
