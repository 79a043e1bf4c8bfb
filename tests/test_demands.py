"""Points [27] and [28], and quietsums/demands.py."""

import unittest
from random import Random

from quietsums.around import form_of
from quietsums.demands import Demands, fulfils, least_ladder
from quietsums.doors import Doors
from quietsums.errors import Contradiction, InvalidDemand, InvalidSums, OtherDoors, TiedIns
from quietsums.gaining import gains
from quietsums.ladders import Ladder
from quietsums.spaces import Relations, Space
from quietsums.sums import Sum
from tests.door_helpers import example_doors, random_demands, random_doors, random_ladder, random_part
from tests.helpers import NO_LISTS, NO_NAMES, NO_SUMS, Plain, fails

X, Y, Z, T = [Sum(3, {name: 1}) for name in "xyzt"]
ONE = Sum(3, {}, 1)
TOTAL = T - X - Y - Z


class Asking(unittest.TestCase):
    def test_as_they_were_passed(self):
        must = [(["b", "a"], X + Z), ((), Sum(3, {})), (["c"], X * 2), (("b", "a"), X + Z)]
        demands = Demands(example_doors(), [TOTAL, TOTAL * 2], must)
        self.assertEqual([demands.doors, demands.always()], [example_doors(), [TOTAL, TOTAL * 2]])
        wanted = [(("a", "b"), X + Z), ((), Sum(3, {})), (("c",), X * 2), (("a", "b"), X + Z)]
        self.assertEqual(demands.must(), wanted)
        self.assertEqual({(type(entry), type(entry[0])) for entry in demands.must()}, {(tuple, tuple)})
        named = Demands(must=tuple(must), relations=(TOTAL, TOTAL * 2), doors=example_doors())
        self.assertEqual([named == demands, type(named.always()), type(named.must())], [True, list, list])

    def test_equality(self):
        demands = Demands(example_doors(), [TOTAL], [(["a", "b"], X), ([], Y)])
        self.assertTrue(demands == Demands(example_doors(), (TOTAL,), ((("b", "a"), X), ((), Y))))
        doors = Doors(3, ["a", "b", "c"], {"x": ["a"], "y": ["b"]}, {"t": ["c"], "z": ["c"]})
        others = (Demands(example_doors(), [TOTAL * 2], demands.must()), Demands(example_doors(), [TOTAL], [([], Y), (["a", "b"], X)]),
                  Demands(example_doors(), [TOTAL], [(["a"], X), ([], Y)]), Demands(doors, [TOTAL], demands.must()),
                  Demands(example_doors(), [TOTAL, TOTAL], demands.must()), Demands(example_doors(), [TOTAL], []))
        for other in (*others, None, 0, demands.must(), Plain()):
            self.assertFalse(demands == other)
            self.assertTrue(demands != other)

    def test_copies(self):
        relations, group = [TOTAL], ["b", "a"]
        must = [(group, X)]
        demands = Demands(example_doors(), relations, must)
        relations.clear()
        group.append("c")
        must.append(None)
        self.assertEqual([demands.always(), demands.must()], [[TOTAL], [(("a", "b"), X)]])
        demands.always().clear()
        demands.must().clear()
        self.assertEqual([demands.always(), demands.must()], [[TOTAL], [(("a", "b"), X)]])

    def test_and_also(self):
        demands = Demands(example_doors(), [TOTAL], [(["a"], Y)])
        longer = demands.and_also((["c", "b"], Z), ([], T))
        self.assertEqual(longer, Demands(example_doors(), [TOTAL], [(["a"], Y), (["b", "c"], Z), ([], T)]))
        self.assertEqual([demands.and_also() == demands, len(demands.must())], [True, 1])
        for entry in (None, [], [(["c"], Z)], (["c"], Sum.of(3, q=1)), (["d"], Z), (["c"],)):
            fails(self, InvalidDemand, demands.and_also, ([], T), entry, None, position=2)

    def test_edges(self):
        empty = Demands(Doors(2, ["a"], {}, {}), [], [])
        self.assertEqual([empty.always(), empty.must()], [[], []])
        zero = Demands(example_doors(), [Sum(3, {}), TOTAL, TOTAL], [([], ONE), (["a", "b", "c"], X)])
        self.assertEqual(len(zero.always()), 3)
        many = Demands(example_doors(), [], [(["a"], Y)] * 300)
        self.assertEqual(len(many.must()), 300)


class OfLadders(unittest.TestCase):
    def test_by_the_words(self):
        for seed in range(80):
            ladder = random_ladder(seed) if seed % 2 else form_of(random_part(seed))
            demands = Demands.of(ladder)
            groups = ladder.doors.groups()[:-1]
            self.assertEqual(demands.always(), ladder.relations.basis())
            self.assertEqual(demands.must(), [(group, total) for group in groups for total in gains(ladder, group)])
            self.assertEqual(least_ladder(demands), ladder)
        self.assertEqual(Demands.of(ladder=ladder), demands)


class LeastLadders(unittest.TestCase):
    def test_example(self):
        ladder = least_ladder(Demands(example_doors(), [TOTAL], []))
        self.assertEqual(str(ladder.space(["c"]).basis()[1]), "x + y")
        self.assertEqual([ladder.doors, ladder.relations], [example_doors(), Relations(3, [TOTAL])])
        self.assertEqual(ladder.space(["c"]), Space(3, [Z, T, X + Y]))
        self.assertEqual(ladder.space([]), Space(3, [TOTAL]))
        self.assertEqual(ladder.space(["a", "c"]), Space(3, [X, Y, Z, T]))
        self.assertEqual(ladder.space(["a", "b"]), Space(3, [X, Y, T - Z]))

    def test_must(self):
        must = [([], X + Y), (["b"], X * 2 + ONE), (["a", "b"], T), (["c"], Sum(3, {}))]
        ladder = least_ladder(demands=Demands(example_doors(), [], must))
        self.assertEqual([ladder.space([]), ladder.space(["a"]), ladder.space(["b"]), ladder.space(["c"])],
                         [Space(3, [X + Y]), Space(3, [X, Y]), Space(3, [X, Y]), Space(3, [X + Y, Z, T])])
        self.assertEqual([ladder.space(["a", "b"]), ladder.space(["a", "c"])], [Space(3, [X, Y, T]), Space(3, [X, Y, Z, T])])

    def test_the_group_of_all_hands(self):
        ladder = least_ladder(Demands(Doors(5, ["a", "b"], {}, {"y": ["a"]}), [], []))
        self.assertEqual([space.dimension for _, space in ladder.walk()], [0, 1, 0, 1])
        empty = least_ladder(Demands(Doors(5, ["a"], {}, {}), [], []))
        self.assertEqual([space for _, space in empty.walk()], [Space(5, []), Space(5, [])])

    def test_by_the_words(self):
        for seed in range(100):
            demands = random_demands(seed)
            doors, ladder = demands.doors, least_ladder(demands)
            self.assertEqual(ladder.relations, Relations(doors.modulus, demands.always()))
            for group, space in ladder.walk():
                sums = demands.always() + [Sum(doors.modulus, {name: 1}) for name in doors.held(group)]
                sums += [target for part, target in demands.must() if set(part) <= set(group)]
                if len(group) == len(doors.hands()):
                    sums = [Sum(doors.modulus, {name: 1}) for name in doors.names()]
                self.assertEqual(space, Space(doors.modulus, sums))

    def test_every_ladder_that_fulfils_contains_it(self):
        answers = set()
        for seed in range(200):
            demands = random_demands(seed, random_doors(Random(seed), 2, 3), 2)
            least = least_ladder(demands)
            self.assertIs(fulfils(least, demands), True)
            for other in (random_ladder(seed + 500, demands.doors), form_of(random_part(seed, demands.doors))):
                contains = all(space.within(other.space(group)) for group, space in least.walk())
                contains = contains and least.relations.within(other.relations)
                self.assertIs(fulfils(other, demands), contains)
                answers.add(contains)
        self.assertEqual(answers, {True, False})

    def test_ten_doors(self):
        hands = ["a", "b", "c", "d"]
        doors = Doors(13, hands, {f"x{at}": [hands[at % 4]] for at in range(5)}, {f"y{at}": [hands[at % 4]] for at in range(5)})
        pairs = [Sum(13, {f"x{at}": 3, f"y{at}": 1}, at) for at in range(5)]
        ladder = least_ladder(Demands(doors, pairs, [(["a", "b"], Sum.of(13, x3=1))]))
        self.assertEqual([ladder.space([group]).dimension for group in hands], [7, 6, 6, 6])
        self.assertEqual(ladder.space(["b", "a"]).dimension, 9)


class Fulfilling(unittest.TestCase):
    def test_ordinary(self):
        demands = Demands(example_doors(), [TOTAL], [(["c"], X + Y)])
        self.assertIs(fulfils(least_ladder(Demands(example_doors(), [TOTAL], [])), demands), True)
        self.assertIs(fulfils(least_ladder(Demands(example_doors(), [], [(["c"], X + Y)])), demands), False)
        other = Demands(example_doors(), [TOTAL + ONE], [(["c"], X + Y)])
        self.assertIs(fulfils(demands=demands, ladder=least_ladder(other)), False)
        self.assertIs(fulfils(least_ladder(demands), Demands(example_doors(), [], [(["c"], X)])), False)
        self.assertIs(fulfils(least_ladder(demands), Demands(example_doors(), [], [([], X + Y)])), False)
        self.assertIs(fulfils(least_ladder(demands), Demands(example_doors(), [], [])), True)

    def test_other_doors(self):
        demands = Demands(Doors(3, ["a", "b"], {"x": ["a"]}, {"y": ["b"]}), [], [])
        for doors, name in ((Doors(5, ["a", "b"], {"x": ["a"]}, {"y": ["b"]}), None), (Doors(3, ["a"], {"x": ["a"]}, {}), None),
                            (Doors(3, ["a", "b"], {"x": ["b"]}, {}), "x"), (Doors(3, ["a", "b"], {"x": ["a"], "y": ["b"]}, {}), "y"),
                            (Doors(3, ["a", "b"], {"x": ["a"], "w": ["a"]}, {"y": ["b"]}), "w")):
            fails(self, OtherDoors, fulfils, least_ladder(Demands(doors, [], [])), demands, name=name)
            fails(self, OtherDoors, fulfils, least_ladder(demands), Demands(doors, [], []), name=name)


class WrongDemands(unittest.TestCase):
    def test_relations(self):
        for value in NO_LISTS:
            fails(self, InvalidSums, Demands, example_doors(), value, None, position=None)
        for value in (*NO_SUMS, Sum(5, {}), Sum.of(5, x=1), Sum.of(3, q=1), X + Sum.of(3, a=1)):
            fails(self, InvalidSums, Demands, example_doors(), [TOTAL, value, None], None, position=1)

    def test_contradiction_and_tied_ins(self):
        for sums in ([ONE], [TOTAL, TOTAL + ONE], [X, X + ONE, T], [T - X, T - Y, X - Y + ONE]):
            fails(self, Contradiction, Demands, example_doors(), sums, None, number=1)
        for sums, relation in (([X * 2], X), ([TOTAL, T + Z], X + Y + Z * 2), ([X - Y + ONE], X - Y + ONE),
                               ([T + Z + ONE, TOTAL, X], X)):
            fails(self, TiedIns, Demands, example_doors(), sums, None, relation=relation)

    def test_must(self):
        for value in NO_LISTS:
            fails(self, InvalidDemand, Demands, example_doors(), [], value, position=None)
        entries = [None, True, 0, "ab", [["a"], X], (), (["a"],), (["a"], X, X), {"a": X}, Plain(), (X, ["a"])]
        entries += [(group, X) for group in (*NO_LISTS, ["d"], ["x"], ["a", "a"], [["a"]], "a")]
        entries += [(["a", name], X) for name in NO_NAMES]
        entries += [(["a"], value) for value in (*NO_SUMS, [X], Sum(5, {}), Sum.of(3, q=1), Sum.of(3, a=1))]
        for entry in entries:
            fails(self, InvalidDemand, Demands, example_doors(), [TOTAL], [(["a"], X), entry, None], position=1)
        fails(self, TiedIns, Demands, example_doors(), [X], None, relation=X)


if __name__ == "__main__":
    unittest.main()
