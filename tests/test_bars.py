"""Point [29], and the functions of bars.py."""

import unittest
from itertools import chain, combinations
from random import Random

from quietsums.bars import bar, cores, first_barred, implied, is_bar, keeping_sets
from quietsums.demands import Demands, least_ladder
from quietsums.doors import Doors
from quietsums.errors import InvalidDemand, InvalidGroup, InvalidSum, TooMany, UnknownName
from quietsums.sums import Sum
from tests.door_helpers import example_doors, random_demands
from tests.helpers import NO_INTEGERS, NO_LISTS, NO_NAMES, NO_SUMS, Plain, fails, random_sum

X, Y, Z, T = [Sum(3, {name: 1}) for name in "xyzt"]
ONE = Sum(3, {}, 1)
TOTAL = T - X - Y - Z


def index_sets(many):
    return list(chain.from_iterable(combinations(range(many), size) for size in range(many + 1)))


def with_entries(demands, indexes):
    return Demands(demands.doors, demands.always(), [demands.must()[index] for index in indexes])


def is_barred(demands, group, target):
    return target in least_ladder(demands).space(group)


def judged(demands, group, target, value):
    """Tell whether a list of tuples is a bar, by the words of the document; the group is not that of all hands."""
    rest = target
    for kind, key, weight in value:
        if kind == "hold":
            rest = rest - demands.always()[key] * weight
        elif kind == "own":
            if not set(demands.doors.holders(key)) & set(group):
                return False
            rest = rest - Sum(demands.doors.modulus, {key: 1}) * weight
        else:
            if not set(demands.must()[key][0]) <= set(group):
                return False
            rest = rest - demands.must()[key][1] * weight
    return rest.is_constant


def paid():
    """Return demands in which c gets t = x + y + z, and some sums must be known."""
    return Demands(example_doors(), [TOTAL], [(["a"], Y), ([], T), (["b", "a"], Z), (["c"], X - Y)])


class Bars(unittest.TestCase):
    def test_example(self):
        demands = Demands(example_doors(), [TOTAL], [])
        self.assertIsNone(bar(demands, ["c"], Y))
        found = bar(target=Y, group=["a", "c"], demands=demands)
        self.assertIs(is_bar(demands, ["c", "a"], Y, found), True)
        self.assertIs(type(found), list)
        self.assertEqual(first_barred(demands, [(["c"], Y), (["a", "c"], Y)]), 1)

    def test_exactly_if_barred(self):
        answers = []
        for seed in range(300):
            demands, chance = random_demands(seed), Random(seed)
            doors = demands.doors
            group = chance.choice(doors.groups())
            target = random_sum(chance, doors.modulus, doors.names())
            found = bar(demands, chance.sample(group, len(group)), target)
            self.assertEqual(found is not None, is_barred(demands, group, target))
            if len(group) == len(doors.hands()):
                self.assertEqual(found, [("all",)])
                continue
            answers.append(found is not None)
            if found is not None:
                self.assertTrue(judged(demands, group, target, found))
                self.assertIs(is_bar(demands, group, target, found), True)
                self.assertTrue(all(type(entry) is tuple and 0 <= entry[2] < doors.modulus for entry in found))
        self.assertGreater(min(answers.count(True), answers.count(False)), 50)

    def test_each_kind(self):
        demands = paid()
        self.assertEqual(bar(demands, [], TOTAL * 2 + ONE), [("hold", 0, 2)])
        self.assertEqual(bar(demands, ["a"], X), [("own", "x", 1)])
        self.assertEqual(bar(demands, ["c"], X - Y), [("must", 3, 1)])
        self.assertIs(is_bar(demands, ["a"], Z, bar(demands, ["a"], Z)), True)
        self.assertIsNone(bar(demands, [], Y))

    def test_constants_and_no_reasons(self):
        demands = Demands(example_doors(), [], [])
        for target in (Sum(3, {}), ONE):
            self.assertEqual(bar(demands, [], target), [])
            self.assertIs(is_bar(demands, [], target, []), True)
            self.assertIs(is_bar(demands, ["a"], target, ()), True)
        self.assertIsNone(bar(demands, [], X))
        self.assertIs(is_bar(demands, [], X, []), False)

    def test_the_group_of_all_hands(self):
        demands = paid()
        for target in (X, T + X, ONE):
            for group in (["a", "b", "c"], ("c", "a", "b")):
                self.assertEqual(bar(demands, group, target), [("all",)])
                self.assertIs(is_bar(demands, group, target, [("all",)]), True)
                self.assertIs(is_bar(demands, group, target, (("all",),)), True)
                for value in ([], [("all",), ("all",)], [["all"]], ["all"], [("all", 1)], [("all",), ("own", "x", 0)], [()],
                              [("own", "x", 1)], [("All",)], [(None,)], ("all",), [(["all"],)], [("hold", 0, 0)]):
                    self.assertIs(is_bar(demands, group, target, value), False, value)
        self.assertIs(is_bar(demands, ["a", "b"], X, [("all",)]), False)
        one = Demands(Doors(3, ["a"], {}, {}), [], [])
        self.assertEqual([bar(one, ["a"], ONE), bar(one, [], ONE)], [[("all",)], []])

    def test_order_zeros_and_repetitions(self):
        demands = paid()
        good = [("hold", 0, 2), ("own", "x", 2), ("must", 1, 1), ("must", 0, 2)]
        for value in (good, good[::-1], tuple(good), [*good, ("own", "x", 0)], [("hold", 0, 1), ("hold", 0, 1), *good[1:]],
                      [*good, ("own", "x", 1), ("own", "x", 2)], [*good, ("must", 0, 0)], [*good, ("hold", 0, 0)],
                      [*good[:3], ("must", 0, 1), ("must", 0, 1)]):
            self.assertIs(is_bar(value=value, target=Z, group=("a",), demands=demands), True, value)
            self.assertIs(is_bar(demands, ["a"], Z + ONE, value), True)
            self.assertIs(is_bar(demands, ["a"], Z * 2, value), False)
            self.assertIs(is_bar(demands, ["b"], Z, value), False)

    def test_is_bar_by_the_words(self):
        answers = set()
        for seed in range(200):
            demands, chance = random_demands(seed), Random(seed)
            doors = demands.doors
            group = chance.choice(doors.groups()[:-1])
            entries = [("hold", index) for index in range(len(demands.always()))] + [("own", name) for name in doors.names()]
            entries += [("must", index) for index in range(len(demands.must()))]
            for _ in range(10):
                value = [(*entry, chance.randrange(doors.modulus)) for entry in chance.choices(entries, k=2 if entries else 0)]
                target = random_sum(chance, doors.modulus, doors.names())
                self.assertIs(is_bar(demands, group, target, value), judged(demands, group, target, value))
                answers.add(is_bar(demands, group, target, value))
        self.assertEqual(answers, {True, False})

    def test_is_bar_of_any_value(self):
        demands = paid()
        good = [("own", "x", 1)]
        self.assertIs(is_bar(demands, ["a"], X, good), True)
        for value in NO_LISTS:
            self.assertIs(is_bar(demands, ["a"], X, value), False)
        wrong = [None, True, 0, "own", [], (), ["own", "x", 0], ("own", "x"), ("own", "x", 0, 0), ("own", "y", 0), ("own", "z", 0),
                 ("own", "q", 0), ("own", "a", 0), ("own", 0, 0), ("hold", 1, 0), ("hold", -1, 0), ("hold", "x", 0), ("must", 2, 0),
                 ("must", 3, 0), ("must", 4, 0), ("must", -4, 0), ("Own", "x", 0), (None, "x", 0), (["own"], "x", 0),
                 ("own", ["x"], 0), ("own", "x", 3), ("own", "x", -3), ("all",), ("hold", 10 ** 29, 0), Plain(), {"own": 1}]
        wrong += [("own", name, 0) for name in NO_NAMES] + [("must", index, 0) for index in NO_INTEGERS]
        wrong += [("hold", index, 0) for index in NO_INTEGERS] + [("own", "x", weight) for weight in NO_INTEGERS]
        for entry in wrong:
            self.assertIs(is_bar(demands, ["a"], X, [*good, entry]), False, entry)
            self.assertIs(is_bar(demands, ["a"], X, [entry, *good]), False, entry)

    def test_new_lists_each_time(self):
        bar(paid(), ["a"], X).clear()
        self.assertEqual(bar(paid(), ["a"], X), [("own", "x", 1)])
        demands = paid()
        first = bar(demands, ["a"], Z)
        first.clear()
        self.assertIs(is_bar(demands, ["a"], Z, bar(demands, ["a"], Z)), True)

    def test_wrong(self):
        demands = paid()
        for call in (bar, cores, lambda *given: is_bar(*given, None)):
            for value in (*NO_LISTS, ["d"], ["a", "a"], [None], [["a"]]):
                fails(self, InvalidGroup, call, demands, value, None, value=value)
            for value in (*NO_SUMS, Sum(5, {}), Sum.of(5, q=1)):
                fails(self, InvalidSum, call, demands, ["a"], value, value=value)
            fails(self, UnknownName, call, demands, ["a", "b", "c"], Sum.of(3, x=1, r=1, q=1), name="q")


class FirstBarred(unittest.TestCase):
    def test_ordinary(self):
        demands = paid()
        secrets = [([], X), (["b"], X), (["b", "a"], Z), ([], T)]
        self.assertEqual(first_barred(demands, secrets), 2)
        self.assertIsNone(first_barred(secrets=tuple(secrets[:2]), demands=demands))
        self.assertIsNone(first_barred(demands, []))
        self.assertEqual(first_barred(demands, [(("c", "b", "a"), X)]), 0)
        self.assertEqual(first_barred(demands, [([], X), ([], ONE)]), 1)

    def test_by_the_words(self):
        for seed in range(100):
            demands, chance = random_demands(seed), Random(seed)
            secrets = [(chance.choice(demands.doors.groups()), random_sum(chance, demands.doors.modulus, demands.doors.names()))
                       for _ in range(4)]
            found = [index for index, secret in enumerate(secrets) if is_barred(demands, *secret)]
            self.assertEqual(first_barred(demands, secrets), found[0] if found else None)

    def test_wrong(self):
        demands = paid()
        for call in (first_barred, keeping_sets):
            for value in NO_LISTS:
                fails(self, InvalidDemand, call, demands, value, position=None)
            for entry in (None, (), (["a"],), [["a"], X], (["d"], X), (["a", "a"], X), (["a"], None), (["a"], Sum.of(5, x=1)),
                          (["a"], Sum.of(3, q=1)), ("a", X), (["a"], X, X), Plain(), (X, ["a"])):
                fails(self, InvalidDemand, call, demands, [(["a"], X), entry, None], position=1)


class CoresAndKeepingSets(unittest.TestCase):
    def test_ordinary(self):
        demands = Demands(example_doors(), [], [(["a"], Y), ([], Y - Z), (["c"], Z), ([], Z), (["b", "a"], X + T)])
        self.assertEqual(cores(demands, ["a"], Z), [(3,), (0, 1)])
        self.assertEqual(cores(target=Z, group=("a",), demands=demands), [(3,), (0, 1)])
        self.assertEqual(cores(demands, [], Z), [(3,)])
        self.assertEqual(cores(demands, ["a", "b"], T), [(4,)])
        self.assertEqual(cores(demands, ["a"], T), [])
        self.assertEqual(cores(demands, ["a"], X), [()])
        self.assertEqual(cores(demands, ["a", "b", "c"], T), [()])
        self.assertEqual(cores(demands, [], ONE), [()])
        self.assertEqual(keeping_sets(demands, [(["a"], Z)]), [(0, 2, 4), (1, 2, 4)])
        self.assertEqual(keeping_sets(secrets=((("a",), Z), (["b", "a"], T)), demands=demands), [(0, 2), (1, 2)])

    def test_edges(self):
        demands = paid()
        self.assertEqual(keeping_sets(demands, []), [(0, 1, 2, 3)])
        self.assertEqual(keeping_sets(demands, [(["a"], X)]), [])
        self.assertEqual(keeping_sets(demands, [(["b", "c", "a"], X), ([], X)]), [])
        empty = Demands(example_doors(), [TOTAL], [])
        self.assertEqual([keeping_sets(empty, []), keeping_sets(empty, [(["c"], Y)]), cores(empty, ["c"], Y)], [[()], [()], []])
        self.assertEqual([keeping_sets(empty, [(["c"], X + Y)]), cores(empty, ["c"], X + Y)], [[], [()]])

    def test_several_secrets_of_one_group(self):
        demands = Demands(example_doors(), [], [([], X), ([], Y), ([], X + Y)])
        secrets = [([], X - Y), (["c"], X), ([], Y), (["c"], Z - X)]
        self.assertEqual(keeping_sets(demands, secrets[:1]), [(0,), (1,), (2,)])
        self.assertEqual(keeping_sets(demands, secrets[1:2]), [(1,), (2,)])
        self.assertEqual(keeping_sets(demands, secrets), [(2,)])

    def test_by_the_words(self):
        sizes = set()
        for seed in range(150):
            demands, chance = random_demands(seed, most=6), Random(seed)
            doors = demands.doors
            secrets = [(chance.choice(doors.groups()[:-1]), random_sum(chance, doors.modulus, doors.names())) for _ in range(2)]
            sets = index_sets(len(demands.must()))
            group, target = secrets[0]
            barring = [indexes for indexes in sets if is_barred(with_entries(demands, indexes), group, target)]
            wanted = [indexes for indexes in barring if not [less for less in barring if set(less) < set(indexes)]]
            self.assertEqual(cores(demands, group, target), wanted)
            keeping = [indexes for indexes in sets
                       if not any(is_barred(with_entries(demands, indexes), *secret) for secret in secrets)]
            most = [indexes for indexes in keeping if not [more for more in keeping if set(more) > set(indexes)]]
            self.assertEqual(keeping_sets(demands, secrets), most)
            sizes |= {("core", len(found)) for found in wanted} | {("keeping", len(most))}
        self.assertLessEqual({("core", 0), ("core", 1), ("core", 2), ("keeping", 0), ("keeping", 1), ("keeping", 2)}, sizes)

    def test_ten_entries(self):
        names = [f"x{at}" for at in range(10)]
        doors = Doors(2, ["a", "b"], {name: ["a"] for name in names}, {})
        sums = [Sum(2, {name: 1}) for name in names]
        demands = Demands(doors, [], [(["b"], total) for total in sums])
        whole = Sum(2, {name: 1 for name in names})
        self.assertEqual(cores(demands, ["b"], whole), [tuple(range(10))])
        self.assertEqual(keeping_sets(demands, [(["b"], whole)]), list(combinations(range(10), 9)))
        self.assertEqual(keeping_sets(demands, [(["b"], total) for total in sums]), [()])
        more = demands.and_also((["b"], whole))
        fails(self, TooMany, cores, more, None, None, limit=10)
        fails(self, TooMany, keeping_sets, more, None, limit=10)
        self.assertEqual([first_barred(more, [(["b"], whole)]), implied(more)], [0, list(range(11))])

    def test_new_lists_each_time(self):
        demands = paid()
        cores(demands, ["a"], Z).clear()
        keeping_sets(demands, []).clear()
        implied(demands).clear()
        self.assertEqual([cores(demands, ["a"], Z), keeping_sets(demands, []), implied(demands)],
                         [[(0, 1)], [(0, 1, 2, 3)], [2]])
        self.assertEqual({type(core) for core in cores(demands, ["a"], Z)}, {tuple})


class Implied(unittest.TestCase):
    def test_ordinary(self):
        must = [([], X + Y), (["a"], Y), (["b"], Y), (["c", "a", "b"], T), (["a", "b"], T - Z), (["c"], X), (["c"], Y * 2 + ONE),
                (["a"], ONE)]
        demands = Demands(example_doors(), [TOTAL], must)
        self.assertEqual(implied(demands), [1, 2, 3, 4, 5, 6, 7])
        self.assertEqual(implied(demands=Demands(example_doors(), [], must[:3])), [1, 2])
        self.assertEqual(implied(Demands(example_doors(), [], [(["a", "b"], Z), (["b"], Z)])), [0])
        self.assertEqual(implied(Demands(example_doors(), [], [])), [])

    def test_each_for_itself(self):
        demands = Demands(example_doors(), [], [(["a"], Y), (["a"], Y), (["a"], Y + Z)])
        self.assertEqual(implied(demands), [0, 1])

    def test_by_the_words(self):
        some = 0
        for seed in range(150):
            demands = random_demands(seed, most=5)
            many = len(demands.must())
            least = least_ladder(demands)
            wanted = [index for index in range(many)
                      if least_ladder(with_entries(demands, [at for at in range(many) if at != index])) == least]
            self.assertEqual(implied(demands), wanted)
            some += 0 < len(wanted) < many
        self.assertGreater(some, 20)


if __name__ == "__main__":
    unittest.main()
