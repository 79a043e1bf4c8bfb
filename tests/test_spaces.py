"""Points [6], [7] and [8], and the classes Space and Relations."""

import unittest
from itertools import product
from random import Random

from quietsums.errors import (Contradiction, InvalidModulus, InvalidNames, InvalidSum, InvalidSums, OtherModulus)
from quietsums.spaces import Relations, Space, Spanned
from quietsums.sums import Sum
from tests.helpers import MODULI, NO_LISTS, NO_MODULI, NO_NAMES, NO_SUMS, Plain, fails, random_sum

NAMES = ("x", "y", "z")


def all_sums(modulus, names=NAMES):
    """Return all sums of some names, by their texts."""
    found = {}
    for constant, *weights in product(range(modulus), repeat=len(names) + 1):
        total = Sum(modulus, dict(zip(names, weights)), constant)
        found[str(total)] = total
    return found


def spanned_texts(modulus, sums):
    """Return the texts of all sums of multiples of some sums."""
    found = set()
    for numbers in product(range(modulus), repeat=len(sums)):
        total = Sum(modulus, {})
        for number, part in zip(numbers, sums):
            total = total + part * number
        found.add(str(total))
    return found


def content(modulus, spanned):
    return {text for text, total in all_sums(modulus).items() if total in spanned}


def random_sums(chance, modulus, constant=True):
    return [random_sum(chance, modulus, NAMES, constant) for _ in range(chance.randrange(4))]


def some_spaces():
    """Yield tuples (modulus, sums, Space, texts of its sums)."""
    chance = Random(5)
    for turn in range(40):
        modulus = (2, 3)[turn % 2]
        sums = random_sums(chance, modulus)
        yield modulus, sums, Space(modulus, sums), spanned_texts(modulus, [*sums, Sum(modulus, {}, 1)])


def some_relations():
    """Yield tuples (modulus, sums, Relations, texts of its sums)."""
    chance = Random(6)
    turn = 0
    while turn < 40:
        modulus = (2, 3)[turn % 2]
        sums = random_sums(chance, modulus)
        texts = spanned_texts(modulus, sums)
        if "1" not in texts:
            turn += 1
            yield modulus, sums, Relations(modulus, sums), texts


class Spaces(unittest.TestCase):
    def test_example(self):
        space = Space(5, [Sum(5, {"x": 2, "y": 4}, 3), Sum.of(5, x=1, z=1), Sum(5, {}, 2)])
        self.assertEqual([str(total) for total in space.basis()], ["x + z", "y + 2 z"])
        self.assertEqual([space.modulus, space.dimension, space.names()], [5, 2, ["x", "y", "z"]])
        self.assertEqual(repr(Space(5, [Sum(5, {"x": 2}, 1)])), "Space(5, [Sum(5, {'x': 1}, 0)])")
        self.assertEqual(repr(Space(2, ())), "Space(2, [])")
        self.assertEqual(space, Space(sums=tuple(space.basis()), modulus=5))

    def test_contains(self):
        for modulus, _, space, texts in some_spaces():
            self.assertEqual(content(modulus, space), texts)

    def test_contains_any_value(self):
        space = Space(5, [Sum.of(5, x=1)])
        for value in (*NO_SUMS, Sum(7, {}), Sum.of(7, x=1), Sum.of(5, x=1, y=1)):
            self.assertIs(value in space, False)
        for constant in range(5):
            self.assertIs(Sum(5, {"x": 3}, constant) in space, True)
            self.assertIs(Sum(5, {}, constant) in Space(5, []), True)

    def test_basis(self):
        for modulus, sums, space, texts in some_spaces():
            basis = space.basis()
            leads = [total.names()[0] for total in basis]
            self.assertEqual(leads, sorted(set(leads)))
            for lead in leads:
                self.assertEqual([total.weight(lead) for total in basis], [int(lead == other) for other in leads])
            self.assertEqual([total.constant for total in basis], [0] * len(basis))
            self.assertEqual(spanned_texts(modulus, [*basis, Sum(modulus, {}, 1)]), texts)
            self.assertEqual(space.dimension, len(basis))
            self.assertEqual(space.names(), sorted({name for total in basis for name in total.names()}))
            self.assertEqual(Space(modulus, sums[::-1]), space)
            self.assertEqual(Space(modulus, basis), space)

    def test_every_modulus(self):
        for modulus in MODULI:
            space = Space(modulus, [Sum.of(modulus, x=modulus - 1, y=1)])
            self.assertEqual(space.basis(), [Sum.of(modulus, x=1, y=modulus - 1)])
            both = [Sum.of(modulus, x=1), Sum.of(modulus, y=1)]
            self.assertEqual(Space.everything(modulus, ["x", "y"]).basis(), both)
            self.assertEqual(Relations(modulus, both).spanned(), Space.everything(modulus, ["x", "y"]))

    def test_reduced(self):
        for modulus, _, space, texts in some_spaces():
            leads = [total.names()[0] for total in space.basis()]
            for total in all_sums(modulus).values():
                rest = space.reduced(target=total)
                self.assertIn(str(rest - total), texts)
                self.assertEqual([rest.constant, *[rest.weight(lead) for lead in leads]], [0] * (len(leads) + 1))

    def test_joined_shared_within_without(self):
        found = list(some_spaces())
        for modulus, sums, space, texts in found:
            for other_modulus, others, other, other_texts in found:
                if modulus == other_modulus:
                    self.assertEqual(space.joined(other), Space(modulus, sums + others))
                    self.assertEqual(content(modulus, space.shared(other)), texts & other_texts)
                    self.assertIs(space.within(other), texts <= other_texts)
                    self.assertIs(space == other, texts == other_texts)
            for names in ([], ["x"], ["z", "x"], ["q", "y", "y"], ["x", "y", "z"]):
                kept = {text for text in texts if not set(Sum.parse(modulus, text).names()) & set(names)}
                self.assertEqual(content(modulus, space.without(names)), kept)
        self.assertEqual(space.without(names=("q",)), space)
        self.assertEqual([space.joined(other=space), space.shared(other=space)], [space, space])

    def test_everything(self):
        space = Space.everything(5, ["y", "x", "y"])
        self.assertEqual(space.basis(), [Sum.of(5, x=1), Sum.of(5, y=1)])
        self.assertEqual(Space.everything(modulus=5, names=("x",)), Space(5, [Sum.of(5, x=2)]))
        self.assertEqual(Space.everything(5, []), Space(5, []))
        for value in NO_MODULI:
            fails(self, InvalidModulus, Space.everything, value, None, value=value)
        for value in NO_LISTS:
            fails(self, InvalidNames, Space.everything, 5, value, position=None)
        for value in NO_NAMES:
            fails(self, InvalidNames, Space.everything, 5, ["x", "x", value, None], position=2)

    def test_equality(self):
        space = Space(5, [Sum.of(5, x=1)])
        others = (Space(5, []), Space(7, [Sum.of(7, x=1)]), Space(5, [Sum.of(5, y=1)]), Relations(5, [Sum.of(5, x=1)]))
        for other in (*others, None, 1, [Sum.of(5, x=1)], Plain()):
            self.assertFalse(space == other)
            self.assertTrue(space != other)
        self.assertTrue(space == Space(5, [Sum(5, {"x": 3}, 2)]))
        self.assertFalse(Space(2, []) == Space(3, []))
        self.assertFalse(Space(2, []) == Relations(2, []))


class RelationsTests(unittest.TestCase):
    def test_example(self):
        relations = Relations(5, [Sum(5, {"x": 2, "y": 4}, 3), Sum.of(5, x=1, z=1)])
        self.assertEqual([str(total) for total in relations.basis()], ["x + z", "y + 2 z + 2"])
        self.assertEqual([relations.modulus, relations.dimension, relations.names()], [5, 2, ["x", "y", "z"]])
        self.assertEqual(repr(Relations(5, [Sum(5, {"x": 2}, 1)])), "Relations(5, [Sum(5, {'x': 1}, 3)])")
        self.assertEqual(relations, Relations(sums=tuple(relations.basis()), modulus=5))
        self.assertEqual(relations.spanned(), Space(5, relations.basis()))

    def test_contains(self):
        for modulus, _, relations, texts in some_relations():
            self.assertEqual(content(modulus, relations), texts)
        for value in (*NO_SUMS, Sum(7, {}), Sum.of(7, x=1), Sum(5, {"x": 1}, 1), Sum(5, {}, 1)):
            self.assertIs(value in Relations(5, [Sum.of(5, x=1)]), False)
        self.assertIs(Sum(5, {}) in Relations(5, []), True)

    def test_contradiction(self):
        one = Sum.of(5, x=1)
        for sums in ([Sum(5, {}, 1)], [Sum(5, {}, 3)], [one, one + Sum(5, {}, 2)],
                     [Sum(5, {"x": 1}, 1), Sum(5, {"y": 1}, 1), Sum.of(5, x=1, y=1)]):
            fails(self, Contradiction, Relations, 5, sums, number=1)
        self.assertEqual(Relations(5, [Sum(5, {}), one, one]).dimension, 1)
        self.assertEqual(Relations(5, [Sum(5, {"x": 1}, 1), Sum(5, {"x": 2}, 2)]).basis(), [Sum(5, {"x": 1}, 1)])
        chance = Random(7)
        for _ in range(200):
            sums = random_sums(chance, 3)
            try:
                Relations(3, sums)
                contradict = False
            except Contradiction:
                contradict = True
            self.assertEqual(contradict, "1" in spanned_texts(3, sums))

    def test_basis(self):
        for modulus, sums, relations, texts in some_relations():
            basis = relations.basis()
            leads = [total.names()[0] for total in basis]
            self.assertEqual(leads, sorted(set(leads)))
            for lead in leads:
                self.assertEqual([total.weight(lead) for total in basis], [int(lead == other) for other in leads])
            self.assertEqual(spanned_texts(modulus, basis), texts)
            self.assertEqual(relations.dimension, len(basis))
            self.assertEqual(relations.names(), sorted({name for total in basis for name in total.names()}))
            self.assertEqual(Relations(modulus, sums[::-1]), relations)
            self.assertEqual(relations.spanned(), Space(modulus, sums))

    def test_reduced(self):
        for modulus, _, relations, texts in some_relations():
            leads = [total.names()[0] for total in relations.basis()]
            for total in all_sums(modulus).values():
                rest = relations.reduced(target=total)
                self.assertIn(str(rest - total), texts)
                self.assertEqual([rest.weight(lead) for lead in leads], [0] * len(leads))
        self.assertEqual(Relations(5, [Sum(5, {"x": 1}, 2)]).reduced(Sum.of(5, x=1)), Sum(5, {}, 3))

    def test_joined_shared_within_without(self):
        found = list(some_relations())
        for modulus, sums, relations, texts in found:
            for other_modulus, others, other, other_texts in found:
                if modulus != other_modulus:
                    continue
                if "1" in spanned_texts(modulus, relations.basis() + other.basis()):
                    fails(self, Contradiction, relations.joined, other, number=1)
                else:
                    self.assertEqual(relations.joined(other), Relations(modulus, sums + others))
                self.assertEqual(content(modulus, relations.shared(other)), texts & other_texts)
                self.assertIs(relations.within(other), texts <= other_texts)
                self.assertIs(relations == other, texts == other_texts)
            for names in ([], ["x"], ["z", "x"], ["q", "y", "y"], ["x", "y", "z"]):
                kept = {text for text in texts if not set(Sum.parse(modulus, text).names()) & set(names)}
                self.assertEqual(content(modulus, relations.without(names)), kept)
        self.assertEqual(relations.without(names=("q",)), relations)

    def test_equality(self):
        relations = Relations(5, [Sum(5, {"x": 1}, 1)])
        others = (Relations(5, []), Relations(7, [Sum(7, {"x": 1}, 1)]), Relations(5, [Sum.of(5, x=1)]))
        for other in (*others, relations.spanned(), None, 0, relations.basis(), Plain()):
            self.assertFalse(relations == other)
            self.assertTrue(relations != other)
        self.assertTrue(relations == Relations(5, [Sum(5, {"x": 2}, 2)]))

    def test_has_no_everything(self):
        self.assertFalse(hasattr(Relations, "everything"))


class Both(unittest.TestCase):
    CLASSES = (Space, Relations)

    def test_kinds(self):
        for kind in self.CLASSES:
            self.assertIsInstance(kind(5, []), Spanned)

    def test_wrong_sums(self):
        for kind in self.CLASSES:
            for value in NO_MODULI:
                fails(self, InvalidModulus, kind, value, None, value=value)
            for value in NO_LISTS:
                fails(self, InvalidSums, kind, 5, value, position=None)
            for value in (*NO_SUMS, Sum(7, {})):
                fails(self, InvalidSums, kind, 5, [Sum(5, {}), value, None], position=1)
        fails(self, InvalidSums, Relations, 5, [Sum(5, {}, 1), None], position=1)

    def test_wrong_others(self):
        for kind, strange in ((Space, Relations), (Relations, Space)):
            spanned = kind(5, [])
            for call in (spanned.joined, spanned.shared, spanned.within):
                for value in (*NO_SUMS, Sum(5, {}), strange(5, []), strange(7, [])):
                    fails(self, InvalidSums, call, value, position=None)
                fails(self, OtherModulus, call, kind(7, [Sum(7, {"x": 1}, 1)]), given=7, expected=5)

    def test_wrong_targets_and_names(self):
        for kind in self.CLASSES:
            spanned = kind(5, [Sum.of(5, x=1)])
            for value in (*NO_SUMS, Sum.of(7, x=1)):
                fails(self, InvalidSum, spanned.reduced, value, value=value)
            for value in NO_LISTS:
                fails(self, InvalidNames, spanned.without, value, position=None)
            for value in NO_NAMES:
                fails(self, InvalidNames, spanned.without, ["x", "x", value, ""], position=2)

    def test_copies(self):
        for kind in self.CLASSES:
            sums = [Sum.of(5, x=1)]
            spanned = kind(5, sums)
            sums.append(Sum.of(5, y=1))
            spanned.basis().append(1)
            spanned.names().append(1)
            self.assertEqual([spanned.basis(), spanned.names(), spanned.dimension], [[Sum.of(5, x=1)], ["x"], 1])
            names = ["x"]
            self.assertEqual(spanned.without(names), kind(5, []))
            self.assertEqual(names, ["x"])
            self.assertEqual(len(sums), 2)


if __name__ == "__main__":
    unittest.main()
