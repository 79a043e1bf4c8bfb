"""Points [40] and [41]: trees, their ways, plans, depths, what is learned on ways, leaks."""

import unittest
from collections import Counter
from itertools import product
from random import Random

from quietsums.books import first_leak
from quietsums.errors import InvalidBook, InvalidGroup, InvalidHands, InvalidModulus, InvalidNode, InvalidWay, InvalidWorld
from quietsums.errors import MissingNumber, TooMany
from quietsums.groups import listening
from quietsums.plans import Plan
from quietsums.spaces import Space
from quietsums.sums import Sum
from quietsums.trees import Tree, depth, learned_on, parting_way, tree_leak
from quietsums.watches import learned
from tests.helpers import NO_DICTS, NO_LISTS, NO_MODULI, NO_NAMES, NO_SUMS, Plain, fails, random_plan, random_sum, values, world_list

X, Y, R = Sum.of(2, x=1), Sum.of(2, y=1), Sum.of(2, r=1)
FIRST = [("own", "a", "x"), ("draw", "a", "r"), ("make", "a", "m", X + R), ("tell", "a", "m")]
TELL_R, TELL_X = [("tell", "a", "r")], [("tell", "a", "x")]


def masked():
    """Return a tree that tells x plus r: if it is 0, it ends; if it is 1, r is told, too, and then b owns y or draws it."""
    last = [([("own", "b", "y")],), ([("draw", "b", "y"), ("tell", "b", "y")], "y", [None, None])]
    return Tree(2, ["b", "a"], (FIRST, "m", [None, (TELL_R, "r", last)]))


def chain(length, modulus=2):
    """Return a node with so many nodes below each other."""
    node = ([],)
    for _ in range(length - 1):
        node = ([], "m", [node] + [None] * (modulus - 1))
    return (FIRST, *node[1:]) if length > 1 else (FIRST,)


def wide(many):
    """Return a node with so many nodes in all, for the modulus 13."""
    first = [("own", "a", "x"), ("tell", "a", "x")]
    nodes, left = [], many - 1
    for _ in range(13):
        below = max(0, min(13, left - 1))
        nodes.append(None if left <= 0 else ([], "x", [([],)] * below + [None] * (13 - below)))
        left -= 0 if left <= 0 else 1 + below
    return first, "x", nodes


def random_node(chance, modulus, hands, plan, length, mark):
    """Return a node with the steps of a drawn plan in front, and drawn nodes below."""
    steps = []
    for at in range(chance.randrange(1, 5)):
        hand = chance.choice(hands)
        held = plan.held(hand, len(plan))
        name = f"n{mark}{at}"
        kind = chance.choice(("own", "draw", "make", "send", "tell", "tell"))
        step = (kind, hand, name)
        if kind == "own" and len(plan.own_names()) > 2 or kind == "draw" and len(plan.drawn_names()) > 2:
            continue
        if kind == "make":
            step = (kind, hand, name, random_sum(chance, modulus, held))
        if kind == "send":
            if not held or len(hands) < 2:
                continue
            step = (kind, hand, chance.choice([other for other in hands if other != hand]), chance.choice(held))
        if kind == "tell":
            names = [name for name in held if name not in plan.told_names()]
            if not names:
                continue
            step = (kind, hand, chance.choice(names))
        steps.append(step)
        plan = plan.extended(step)
    if length == 0 or not plan.told_names() or chance.random() < 0.2:
        return (steps,)
    # Private numbers of one way may be drawn on another one. So both use the same names.
    below = [None if chance.random() < 0.3 else random_node(chance, modulus, hands, plan, length - 1, mark + "k")
             for _ in range(modulus)]
    return steps, chance.choice(plan.told_names()), below


def random_tree(seed):
    chance = Random(seed)
    modulus = chance.choice((2, 2, 3))
    hands = ["b", "a", "c"][:chance.randrange(1, 4)]
    return Tree(modulus, hands, random_node(chance, modulus, hands, Plan(modulus, hands, []), 3 if modulus == 2 else 2, "")), chance


def deciding(node, way):
    """Return the names that decide on a way of a node."""
    names = []
    for number in way:
        names.append(node[1])
        node = node[2][number]
    return names


def counted_ways(tree, names, way, numbers):
    """Return in how many of the worlds for the drawn names the names that decide have the numbers of a way, and of how many."""
    plan = tree.plan(way)
    found = 0
    worlds = world_list(tree.modulus, plan.drawn_names())
    for world in worlds:
        known = values(plan, {**world, **{name: numbers[name] for name in plan.own_names()}})
        found += tuple(known[name] for name in names) == way
    return found, len(worlds)


class Ways(unittest.TestCase):
    def test_example(self):
        tree = masked()
        self.assertEqual(list(tree.ways()), [(0,), (1, 0), (1, 1, 0), (1, 1, 1)])
        self.assertEqual([tree.modulus, tree.hands()], [2, ["b", "a"]])
        self.assertEqual(tree.plan((0,)), Plan(2, ["b", "a"], FIRST))
        self.assertEqual(tree.plan((1, 0)), Plan(2, ["b", "a"], FIRST + TELL_R + [("own", "b", "y")]))
        plan = Plan(2, ["b", "a"], FIRST + TELL_R + [("draw", "b", "y"), ("tell", "b", "y")])
        self.assertEqual([tree.plan(way=(1, 1, 0)), tree.plan((1, 1, 1))], [plan, plan])

    def test_one_node(self):
        tree = Tree(node=(FIRST,), hands=("a",), modulus=2)
        self.assertEqual([list(tree.ways()), tree.plan(())], [[()], Plan(2, ["a"], FIRST)])
        self.assertEqual([depth(tree, (), {"x": 0}), learned_on(tree, (), ["a"])], [0, Space(2, [X])])
        self.assertEqual(list(Tree(2, ["a"], ([],)).ways()), [()])
        self.assertEqual(list(Tree(3, ["a"], ((), )).ways()), [()])

    def test_none_for_all(self):
        tree = Tree(2, ["a"], (FIRST, "m", (None, None)))
        self.assertEqual(list(tree.ways()), [(0,), (1,)])
        self.assertEqual(tree.plan((1,)), Plan(2, ["a"], FIRST))

    def test_all_ways(self):
        lengths = Counter()
        for seed in range(60):
            tree, _ = random_tree(seed)
            found = list(tree.ways())
            self.assertEqual(found, sorted(found))
            # Each tuple of four numbers begins with just one way.
            for numbers in product(range(tree.modulus), repeat=4):
                self.assertEqual(len([way for way in found if numbers[:len(way)] == way]), 1)
            lengths.update(map(len, found))
        self.assertGreater(min(lengths[0], lengths[3]), 3)

    def test_no_way(self):
        tree = masked()
        for value in (None, True, 0, 1, "", "0", b"0", [], [0], [1, 0], {}, {0}, Plain(), (), (1,), (2,), (-1,), (0, 0), (1, 1), (1, 0, 0),
                      (1, 1, 1, 0), (True, 0), (False,), ("0",), (None,), ([0],), (Plain(),), ({},)):
            fails(self, InvalidWay, tree.plan, value, value=value)
            fails(self, InvalidWay, depth, tree, value, None, value=value)
            fails(self, InvalidWay, learned_on, tree, value, None, value=value)
        fails(self, InvalidWay, Tree(2, ["a"], (FIRST,)).plan, (0,), value=(0,))

    def test_new_lists(self):
        tree = masked()
        tree.hands().append("c")
        list(tree.ways()).clear()
        self.assertEqual([tree.hands(), len(list(tree.ways()))], [["b", "a"], 4])

    def test_copies(self):
        steps, ways, hands = list(FIRST), [None, (TELL_R,)], ["a"]
        tree = Tree(2, hands, (steps, "m", ways))
        other = Tree(2, ["a"], (tuple(FIRST), "m", (None, (tuple(TELL_R),))))
        steps.clear()
        ways[0] = (TELL_X,)
        hands.append("b")
        self.assertEqual(tree, other)
        self.assertEqual([list(tree.ways()), tree.plan((0,)).steps(), tree.hands()], [[(0,), (1,)], FIRST, ["a"]])

    def test_equal(self):
        found = [Tree(2, ["a"], (FIRST, "m", [None, (TELL_R,)])), Tree(2, ["a"], (FIRST, "m", [None, None])),
                 Tree(2, ["a"], (FIRST, "m", [([],), (TELL_R,)])), Tree(2, ["a"], (FIRST, "m", [(TELL_R,), None])),
                 Tree(2, ["a", "b"], (FIRST, "m", [None, (TELL_R,)])), Tree(2, ["b", "a"], (FIRST, "m", [None, (TELL_R,)])),
                 Tree(2, ["a"], (FIRST + TELL_R, "m", [None, None])), Tree(2, ["a"], (FIRST + TELL_R, "r", [None, None])),
                 Tree(2, ["a"], (FIRST,)), Tree(2, ["a"], ([],)), Tree(3, ["a"], ([],)), masked()]
        for at, one in enumerate(found):
            self.assertEqual([one == other for other in found], [at == place for place in range(len(found))])
            for value in (None, (FIRST,), [], 2, one.hands(), one.plan(next(one.ways()))):
                self.assertFalse(one == value)
        self.assertEqual(masked(), masked())


class Nodes(unittest.TestCase):
    def test_modulus_and_hands(self):
        for value in NO_MODULI:
            fails(self, InvalidModulus, Tree, value, None, None, value=value)
        for value in (*NO_LISTS, [], list("abcdefg")):
            fails(self, InvalidHands, Tree, 2, value, None, position=None)
        for value in (*NO_NAMES, "a"):
            fails(self, InvalidHands, Tree, 2, ["a", value], None, position=1)

    def test_first_node(self):
        for value in (*NO_LISTS, [], [FIRST], (), (FIRST, "m"), (FIRST, "m", [None, None], None), [FIRST, "m", [None, None]]):
            fails(self, InvalidNode, Tree, 2, ["a"], value, path=())
        for value in (*NO_LISTS, [None], [("own", "b", "x")], [("own", "a", "x"), ("own", "a", "x")], [["own", "a", "x"]]):
            fails(self, InvalidNode, Tree, 2, ["a"], (value,), path=())
            fails(self, InvalidNode, Tree, 2, ["a"], (value, "m", [None, None]), path=())
        for value in (*NO_NAMES, "x", "r", "q", "a"):
            fails(self, InvalidNode, Tree, 2, ["a"], (FIRST, value, [None, None]), path=())
        for value in (*NO_LISTS, [], [None], [None, None, None]):
            fails(self, InvalidNode, Tree, 2, ["a"], (FIRST, "m", value), path=())

    def test_nodes_below(self):
        for value in (*NO_LISTS, [], [FIRST], (FIRST, "m"), (FIRST,), (TELL_R, "x", [None, None]), (TELL_R, "r", [None]), ([("tell", "a", "m")],)):
            if value is not None:
                fails(self, InvalidNode, Tree, 2, ["a"], (FIRST, "m", [None, value]), path=(1,))
                below = (TELL_R, "m", [(TELL_X, "x", [None, value]), (None,)])
                fails(self, InvalidNode, Tree, 2, ["a"], (FIRST, "m", [below, ()]), path=(0, 0, 1))
        # The first one in the sorted order of the paths decides, also if it is further below.
        fails(self, InvalidNode, Tree, 2, ["a"], (FIRST, "m", [(TELL_R, "r", [None, 5]), 5]), path=(0, 1))
        fails(self, InvalidNode, Tree, 2, ["a"], (FIRST, "m", [(TELL_R, "q", [5, 5]), 5]), path=(0,))
        # A name may be told by an earlier node; names of other ways are new.
        Tree(2, ["a"], (FIRST, "m", [(TELL_R, "m", [None, ([("own", "a", "z")],)]), ([("draw", "a", "z")], "m", [None, None])]))

    def test_below_each_other(self):
        tree = Tree(2, ["a"], chain(4))
        self.assertEqual(list(tree.ways())[0], (0, 0, 0))
        for node in (chain(5), chain(6)):
            fails(self, InvalidNode, Tree, 2, ["a"], node, path=(0, 0, 0, 0))
        deep = (FIRST, "m", [None, ([], "m", [None, ([], "m", [None, ([], "m", [5, None])])])])
        fails(self, InvalidNode, Tree, 2, ["a"], deep, path=(1, 1, 1, 0))
        ends = (FIRST, "m", [None, ([], "m", [None, ([], "m", [None, ([], "m", [None, None])])])])
        self.assertEqual(list(Tree(2, ["a"], ends).ways())[-1], (1, 1, 1, 1))

    def test_forty(self):
        self.assertEqual(len(list(Tree(13, ["a"], wide(40)).ways())), 13 + 3 * 12)
        fails(self, TooMany, Tree, 13, ["a"], wide(41), limit=40)
        first, name, nodes = wide(60)
        fails(self, InvalidNode, Tree, 13, ["a"], (first, name, nodes[:12] + [5]), path=(12,))


class Depths(unittest.TestCase):
    def test_example(self):
        tree = masked()
        self.assertEqual([depth(tree, way, {"x": 0}) for way in ((0,), (1, 1, 0), (1, 1, 1))], [1, 2, 2])
        # If x is 1 and x plus r is 1, r is 0.
        self.assertEqual([depth(tree, (1, 0), {"x": 1, "y": 0}), depth(tree, (1, 0), {"x": 0, "y": 0})], [1, None])
        self.assertIsNone(depth(tree, (1, 1, 0), numbers={"x": 1, "y": 1}))
        self.assertEqual(depth(numbers={"x": 0, "z": 1}, way=(0,), tree=tree), 1)

    def test_counted(self):
        found = Counter()
        for seed in range(80):
            tree, chance = random_tree(seed)
            for way in tree.ways():
                names = [name for name, _ in tree.turns(way)]
                for _ in range(3):
                    numbers = {name: chance.randrange(tree.modulus) for name in tree.own_names()}
                    many, worlds = counted_ways(tree, names, way, numbers)
                    k = depth(tree, way, numbers)
                    self.assertEqual(k is None, many == 0)
                    self.assertTrue(k is None or many * tree.modulus ** k == worlds)
                    found[k] += 1
        self.assertGreater(min(found[None], found[0], found[1], found[2]), 10)

    def test_names_that_decide(self):
        node = (FIRST, "m", [(TELL_R, "r", [None, (TELL_X, "m", [None, None])]), None])
        tree = Tree(2, ["a"], node)
        for way in tree.ways():
            self.assertEqual(tree.turns(way), list(zip(deciding(node, way), way)))
        # m is 0 already. So it is not 1 further below.
        self.assertIsNone(depth(tree, (0, 1, 1), {"x": 1}))
        self.assertEqual(depth(tree, (0, 1, 0), {"x": 1}), 1)

    def test_wrong(self):
        tree = masked()
        for value in (*NO_DICTS, {"x": 2}, {"x": True}, {1: 1}, {"X": 1}, {"x": 0, "q": -1}):
            fails(self, InvalidWorld, depth, tree, (0,), value, value=value)
        fails(self, MissingNumber, depth, tree, (0,), {"y": 1}, name="x")
        fails(self, MissingNumber, depth, tree, (1, 0), {}, name="x")
        fails(self, MissingNumber, depth, tree, (1, 0), {"x": 1}, name="y")
        steps = [("own", "a", "z"), ("own", "a", "b"), ("tell", "a", "z")]
        fails(self, MissingNumber, depth, Tree(2, ["a"], (steps, "z", [None, None])), (0,), {}, name="z")
        fails(self, InvalidWay, depth, tree, (1,), 5, value=(1,))


class OnWays(unittest.TestCase):
    def test_example(self):
        tree = masked()
        self.assertEqual(learned_on(tree, (0,), []), Space(2, []))
        self.assertEqual(learned_on(tree, (1, 0), ("b",)), Space(2, [X, Y]))
        self.assertEqual(learned_on(group=[], way=(1, 1, 0), tree=tree), Space(2, [X]))
        # On one way everybody learns x; it is possible for all x.
        self.assertEqual(parting_way(tree, [], {"x": 1, "y": 0}, {"x": 0, "y": 0}), (1, 0))
        self.assertEqual(parting_way(tree, [], {"x": 0, "y": 0}, {"x": 1, "y": 0}), (1, 1, 0))
        self.assertIsNone(parting_way(tree, [], {"x": 0, "y": 0}, {"x": 0, "y": 1}))
        # y is private only on the way (1, 0), which is possible if x is 1.
        self.assertEqual(parting_way(tree, ["b"], {"x": 1, "y": 0}, {"x": 1, "y": 1}), (1, 0))
        self.assertIsNone(parting_way(others={"x": 0, "y": 1}, numbers={"x": 0, "y": 0}, group=["b"], tree=tree))

    def test_learned_on(self):
        for seed in range(40):
            tree, chance = random_tree(seed)
            group = chance.sample(tree.hands(), chance.randrange(len(tree.hands()) + 1))
            for way in tree.ways():
                plan = tree.plan(way)
                self.assertEqual(learned_on(tree, way, group), learned(plan, listening(plan, group)))

    def test_parting_way_tells_observations_apart(self):
        found = Counter()
        for seed in range(200):
            tree, chance = random_tree(seed)
            group = chance.sample(tree.hands(), chance.randrange(len(tree.hands()) + 1))
            numbers, others = [{name: chance.randrange(tree.modulus) for name in tree.own_names()} for _ in range(2)]
            way = parting_way(tree, group, numbers, others)
            # Never told apart: what is observed is equally frequent for both, with the way as part of it.
            seen = [Counter(), Counter()]
            for counter, assignment in zip(seen, (numbers, others)):
                for one in tree.ways():
                    for view, many in self.views(tree, one, group, assignment).items():
                        counter[one, view] += many
            first, second = seen
            # What the two ways that tell apart have in common has the same frequency.
            self.assertEqual(way is None, all(view in second for view in first))
            if way is not None:
                parted = [one for one, view in first if (one, view) not in second]
                self.assertEqual(way, min(parted))
            found[way is None] += 1
        self.assertGreater(min(found.values()), 20)

    def views(self, tree, way, group, assignment):
        """Return how often a group observes what on a way, over all worlds for the drawn names of the plan."""
        plan = tree.plan(way)
        names = [name for name, _ in tree.turns(way)]
        heard = sorted({name for hand in group for moment in range(len(plan) + 1) for name in plan.held(hand, moment)}
                       | set(plan.told_names()))
        found = Counter()
        for world in world_list(tree.modulus, plan.drawn_names()):
            known = values(plan, {**world, **{name: assignment[name] for name in plan.own_names()}})
            if tuple(known[name] for name in names) == way:
                found[tuple(known[name] for name in heard)] += 1
        return found

    def test_wrong(self):
        tree = masked()
        full = {"x": 0, "y": 0}
        for value in (*NO_LISTS, ["c"], ["a", "a"], ["x"], [None], [["a"]]):
            fails(self, InvalidGroup, learned_on, tree, (0,), value, value=value)
            fails(self, InvalidGroup, parting_way, tree, value, None, None, value=value)
        for value in (*NO_DICTS, {"x": 2, "y": 0}, {"x": True, "y": 0}, {1: 1}, {"X": 1}):
            fails(self, InvalidWorld, parting_way, tree, [], value, None, value=value)
            fails(self, InvalidWorld, parting_way, tree, [], full, value, value=value)
        fails(self, MissingNumber, parting_way, tree, [], {}, None, name="x")
        fails(self, MissingNumber, parting_way, tree, [], {"x": 0}, None, name="y")
        fails(self, MissingNumber, parting_way, tree, [], full, {"y": 1}, name="x")
        # Also numbers of which nobody learns anything are asked for.
        fails(self, MissingNumber, parting_way, tree, [], full, {"x": 0}, name="y")
        fails(self, InvalidWorld, parting_way, Tree(2, ["a"], ([],)), [], {}, {"x": 2}, value={"x": 2})
        fails(self, InvalidWay, learned_on, tree, (5,), ["c"], value=(5,))


class Leaks(unittest.TestCase):
    def test_example(self):
        tree = masked()
        self.assertEqual(tree_leak(tree, [(["a"], [X]), ([], [])]), ((1, 0), 1, X))
        self.assertIsNone(tree_leak(tree, [(["a"], [X]), (["b"], [X, Y])]))
        self.assertEqual(tree_leak(book=((("b",), (X,)),), tree=tree), ((1, 0), 0, Y))
        self.assertEqual(tree_leak(tree, [(["b"], [X + Y])]), ((1, 0), 0, X))
        self.assertIsNone(tree_leak(tree, []))

    def test_ways_that_are_not_possible(self):
        # m is 0 above. So nobody takes the way on which everybody would learn x.
        tree = Tree(2, ["a"], (FIRST, "m", [([], "m", [None, (TELL_X,)]), None]))
        self.assertEqual(list(tree.ways()), [(0, 0), (0, 1), (1,)])
        self.assertEqual(learned_on(tree, (0, 1), []), Space(2, [X]))
        self.assertIsNone(tree_leak(tree, [([], [])]))
        self.assertIsNone(parting_way(tree, [], {"x": 0}, {"x": 1}))
        self.assertIsNone(depth(tree, (0, 1), {"x": 0}))

    def test_first_leak_of_a_possible_way(self):
        found = Counter()
        for seed in range(200):
            tree, chance = random_tree(seed)
            book = []
            for _ in range(2):
                group = chance.sample(tree.hands(), chance.randrange(len(tree.hands()) + 1))
                book.append((group, [random_sum(chance, tree.modulus, tree.own_names()) for _ in range(2)]))
            wanted = None
            for way in tree.ways():
                plan = tree.plan(way)
                names = [name for name, _ in tree.turns(way)]
                worlds = world_list(tree.modulus, plan.own_names() + plan.drawn_names())
                possible = any(tuple(values(plan, world)[name] for name in names) == way for world in worlds)
                for index, (group, sums) in enumerate(book):
                    allowed = Space(tree.modulus, sums)
                    beyond = [total for total in learned_on(tree, way, group).basis() if total not in allowed]
                    if possible and beyond and wanted is None:
                        wanted = way, index, beyond[0]
            self.assertEqual(tree_leak(tree, book), wanted)
            found[wanted is None] += 1
        self.assertGreater(min(found.values()), 20)

    def test_like_first_leak(self):
        for seed in range(40):
            plan = random_plan(seed)
            tree = Tree(plan.modulus, plan.hands(), (plan.steps(),))
            book = [([hand], []) for hand in plan.hands()]
            leak = first_leak(plan, book)
            self.assertEqual(tree_leak(tree, book), leak and ((), *leak))

    def test_wrong(self):
        tree = masked()
        for value in NO_LISTS:
            fails(self, InvalidBook, tree_leak, tree, value, position=None)
        good = (["a"], [X])
        for value in (*NO_LISTS, [], [["a"], [X]], (["a"],), (["a"], [X], 1), (["c"], [X]), (["a", "a"], [X]), (None, [X]), (["a"], None),
                      (["a"], X), *((["a"], [X, value]) for value in (*NO_SUMS, Sum.of(3, x=1), R, Sum.of(2, m=1), Sum.of(2, a=1)))):
            fails(self, InvalidBook, tree_leak, tree, [good, value], position=1)


if __name__ == "__main__":
    unittest.main()
