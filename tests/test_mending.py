"""Points [36] and [37]: what is learned in a history, what groups can tell, what is lost and handed on."""

import unittest
from itertools import combinations
from random import Random

from quietsums.demands import Demands, least_ladder
from quietsums.doors import Doors
from quietsums.errors import InvalidGroup, InvalidName, InvalidSum, InvalidWatch, Lost, NameTaken, TooMany, UnknownHand
from quietsums.errors import UnknownName
from quietsums.histories import History
from quietsums.ladders import Ladder
from quietsums.mending import expressed, fewest_sittings, hand_on, is_loss, learned_of, least_tellers, loss, public
from quietsums.mending import tellable
from quietsums.picking import all_groups
from quietsums.shifts import moved
from quietsums.spaces import Relations, Space
from quietsums.sums import Sum
from quietsums.watches import learned
from tests.helpers import NO_DICTS, NO_LISTS, NO_NAMES, NO_SUMS, fails, random_sum
from tests.history_helpers import random_sittings, random_story

X, Y, T = Sum.of(3, x=1), Sum.of(3, y=1), Sum.of(3, t=1)


def added():
    """Return a history in which a and b own x and y, and c gets t, their sum."""
    history = History(3, ["a", "b", "c"])
    history.own("a", "x")
    history.own("b", "y")
    doors = Doors(3, ["a", "b", "c"], {"x": ["a"], "y": ["b"]}, {"t": ["c"]})
    history.put(least_ladder(Demands(doors, [T - X - Y], [])))
    return history


def told():
    """Return a history in which everybody hears x plus y."""
    history = History(3, ["a", "b"])
    history.own("a", "x")
    history.own("b", "y")
    doors = Doors(3, ["a", "b"], {"x": ["a"], "y": ["b"]}, {})
    history.put(least_ladder(Demands(doors, [], [([], X + Y)])))
    return history


def plan_meaning(story, target):
    return target.put({name: story.plan.meaning(name) for name in target.names()})


def said_before(story, group):
    """Return the space of what all hear and what a group holds now, in the plan of a story."""
    held = [story.plan.meaning(name) for hand in group for name in story.history.held(hand)]
    heard = [story.plan.meaning(name) for name in story.plan.told_names()]
    return Space(story.history.modulus, held + heard)


class Learned(unittest.TestCase):
    def test_example(self):
        history = added()
        self.assertEqual(learned_of(history, [["c"]]), Space(3, [X + Y]))
        self.assertEqual(learned_of(history, [("c", "a")]), Space(3, [X, Y]))
        self.assertEqual(learned_of(watch=[[]], history=history), Space(3, []))
        self.assertEqual(learned_of(told(), ([],)), Space(3, [X + Y]))

    def test_without_rounds(self):
        history = History(3, ["a"])
        history.own("a", "x")
        self.assertEqual(learned_of(history, []), Space(3, []))
        self.assertEqual(learned_of(History(2, []), ()), Space(2, []))

    def test_like_the_plan_of_the_parts(self):
        many, wide = 0, 0
        for seed in range(300):
            story, chance = random_story(seed), Random(seed)
            history = story.history
            for hand in history.hands():
                self.assertEqual(history.held(hand), story.plan.held(hand, len(story.plan)))
            self.assertEqual(history.own_names(), sorted(story.plan.own_names()))
            watches = [random_sittings(chance, story) for _ in range(4)]
            for watch in [*watches, [[] for _ in history.rounds()], story.present()]:
                space = learned_of(history, watch)
                self.assertEqual(space, learned(story.plan, story.seats(watch)))
                many += space.dimension > 0
                wide += space.dimension > 1
        self.assertGreater(min(many, wide), 100)

    def test_only_what_is_held_at_rounds(self):
        history = History(3, ["a", "b"])
        for name in ("k", "m"):
            history.own("a", name)
        history.drop("a", "k")
        history.put(least_ladder(Demands(Doors(3, ["b"], {}, {"u": ["b"]}), [], [])))
        # a does not take part, but sits there; k was dropped before, and n is dropped before the next round.
        self.assertEqual(learned_of(history, [["a"]]), Space(3, [Sum.of(3, m=1)]))
        history.drop("a", "m")
        history.own("a", "n")
        history.drop("a", "n")
        history.put(least_ladder(Demands(Doors(3, ["b"], {}, {}), [], [])))
        self.assertEqual(learned_of(history, [[], ["a", "b"]]), Space(3, []))
        self.assertEqual(learned_of(history, [["b", "a"], ["a"]]), Space(3, [Sum.of(3, m=1)]))

    def test_wrong(self):
        history = added()
        history.stop("a")
        history.enter("d")
        history.put(least_ladder(Demands(Doors(3, ["b"], {}, {}), [], [])))
        learned_of(history, [["a"], ["d"]])
        for value in (*NO_LISTS, [], [[]], [[], [], []]):
            fails(self, InvalidWatch, learned_of, history, value, position=None)
        for value in (*NO_LISTS, ["d"], ["a", "a"], [None], ["x"], [["a"]], [True]):
            fails(self, InvalidWatch, learned_of, history, [value, ["a"]], position=0)
        fails(self, InvalidWatch, learned_of, history, [["b"], ["a"]], position=1)
        fails(self, InvalidWatch, learned_of, history, [["d"], ["a"]], position=0)


class Telling(unittest.TestCase):
    def test_public(self):
        self.assertEqual(public(added()), Space(3, [T - X - Y]))
        self.assertEqual(public(history=told()), Space(3, [X + Y]))
        self.assertEqual(public(History(3, [])), Space(3, []))
        for seed in range(60):
            history = random_story(seed).history
            sums = [total for ladder in history.rounds() for total in ladder.space([]).basis()]
            self.assertEqual(public(history), Space(history.modulus, sums))

    def test_tellable(self):
        history = added()
        self.assertEqual(tellable(history, []), Space(3, [T - X - Y]))
        self.assertEqual(tellable(history, ["c"]), Space(3, [T, X + Y]))
        self.assertEqual(tellable(group=("c", "a"), history=history), Space(3, [T, X, Y]))
        # What they held earlier does not count.
        history.drop("c", "t")
        self.assertEqual(tellable(history, ["c", "a"]), Space(3, [X, T - Y]))

    def test_like_the_plan_of_the_parts(self):
        found = {True: 0, False: 0}
        for seed in range(250):
            story, chance = random_story(seed), Random(seed)
            history = story.history
            for group in all_groups(history.hands()):
                space, said = tellable(history, group), said_before(story, group)
                for _ in range(4):
                    target = random_sum(chance, history.modulus, history.names())
                    self.assertIs(target in space, plan_meaning(story, target) in said)
                    found[target in space and not target.is_constant] += 1
        self.assertGreater(min(found.values()), 300)

    def test_least_tellers(self):
        history = added()
        self.assertEqual(least_tellers(history, X), [("a",), ("b", "c")])
        self.assertEqual(least_tellers(target=X + Y, history=history), [("c",), ("a", "b")])
        self.assertEqual(least_tellers(history, T - X - Y), [()])
        self.assertEqual(least_tellers(told(), X + Y), [()])
        self.assertEqual(least_tellers(history, Sum(3, {}, 2)), [()])
        history.stop("b")
        self.assertEqual(least_tellers(history, Y), [("a", "c")])
        history.stop("a")
        self.assertEqual(least_tellers(history, Y), [])
        sizes = set()
        for seed in range(150):
            history, chance = random_story(seed).history, Random(seed)
            target = random_sum(chance, history.modulus, history.names())
            able = [group for group in all_groups(history.hands()) if target in tellable(history, group)]
            least = [group for group in able if not any(set(other) < set(group) for other in able)]
            self.assertEqual(least_tellers(history, target), least)
            sizes |= {len(group) for group in least}
        self.assertLessEqual({0, 1, 2}, sizes)

    def test_wrong(self):
        history = added()
        history.stop("b")
        for value in (*NO_LISTS, ["b"], ["a", "a"], ["x"], [None], [["a"]]):
            fails(self, InvalidGroup, tellable, history, value, value=value)
        for call in (least_tellers, loss, expressed, lambda *given: is_loss(*given, None)):
            for value in (*NO_SUMS, Sum.of(5, x=1), Sum(2, {})):
                fails(self, InvalidSum, call, history, value, value=value)
            fails(self, UnknownName, call, history, X + Sum.of(3, z=1, q=1), name="q")
            fails(self, UnknownName, call, history, Sum.of(3, a=1), name="a")


class Losses(unittest.TestCase):
    def test_example(self):
        history = added()
        self.assertIsNone(loss(history, X))
        history.drop("a", "x")
        self.assertIsNone(loss(history, X))
        self.assertEqual(expressed(history, X).names(), ["t", "y"])
        history.stop("b")
        self.assertIsNone(loss(history, X + Y))
        self.assertIsNone(loss(history, T))
        shift = loss(target=X, history=history)
        self.assertEqual([moved(X, shift) == 0, moved(T, shift), moved(T - X - Y, shift)], [False, 0, 0])
        self.assertIs(is_loss(history, X, shift), True)
        fails(self, Lost, expressed, history, X, target=X)

    def test_loss_or_expression(self):
        found = {True: 0, False: 0}
        for seed in range(300):
            story, chance = random_story(seed), Random(seed)
            history = story.history
            target = random_sum(chance, history.modulus, history.names())
            able = target in tellable(history, history.hands())
            found[able] += 1
            shift = loss(history, target)
            self.assertIs(shift is None, able)
            held = sorted({name for hand in history.hands() for name in history.held(hand)})
            if able:
                total = expressed(history, target)
                self.assertLessEqual(set(total.names()), set(held))
                self.assertIn(total - target, public(history))
            else:
                fails(self, Lost, expressed, history, target, target=target)
                self.assertIs(is_loss(history, target, shift), True)
                self.assertLessEqual(set(shift), set(history.names()) - set(held))
                self.assertEqual(list(shift), sorted(shift))
                self.assertNotEqual(moved(target, shift), 0)
                self.assertTrue(all(moved(total, shift) == 0 for total in public(history).basis()))
        self.assertGreater(min(found.values()), 30)

    def test_is_loss_of_any_value(self):
        history = added()
        history.stop("a")
        history.stop("b")
        self.assertIs(is_loss(history, X, {"x": 1, "y": 2}), True)
        self.assertIs(is_loss(value={"x": 2, "y": 1}, target=X, history=history), True)
        for value in (*NO_DICTS, {}, {"x": 1}, {"y": 1}, {"x": 1, "y": 1}, {"x": 1, "y": 2, "t": 1}, {"x": 1, "y": 2, "q": 1},
                      {"x": 1, "y": 2, "t": 0}, {"x": 1, "y": 5}, {"x": True, "y": 2}, {1: 1}, {"x": -2, "y": 2}, {"t": 1}):
            self.assertIs(is_loss(history, X, value), False, value)
        self.assertIs(is_loss(history, X + Y, {"x": 1, "y": 2}), False)
        # A shift of names that the history does not have shows nothing.
        self.assertIs(is_loss(history, X, {"x": 1, "y": 2, "a": 1}), False)

    def test_constants(self):
        history = added()
        self.assertIsNone(loss(history, Sum(3, {}, 1)))
        self.assertTrue(expressed(history, Sum(3, {}, 1)).is_constant)
        self.assertEqual(expressed(history, X + Sum(3, {}, 2)).names(), ["x"])


class HandedOn(unittest.TestCase):
    def test_example(self):
        history = added()
        ladder = hand_on(history, "a", "u", T * 2 + X + Sum(3, {}, 1))
        doors = Doors(3, ["a", "b", "c"], {"t": ["c"], "x": ["a"]}, {"u": ["a"]})
        relation = Sum.of(3, u=1) - T * 2 - X - Sum(3, {}, 1)
        self.assertIs(type(ladder), Ladder)
        self.assertEqual(ladder, least_ladder(Demands(doors, [relation], [])))
        self.assertEqual(ladder.relations, Relations(3, [relation]))
        self.assertEqual([history.rounds()[1], len(history), history.held("a")], [ladder, 2, ["u", "x"]])
        self.assertEqual(history.own_names(), ["x", "y"])
        # All present hands that hold a name of the sum hold it as an in.
        hand_on(hand="b", history=history, target=Sum.of(3, u=1), name="v")
        hand_on(history, "c", "w", Sum.of(3, u=1))
        self.assertEqual(history.rounds()[3].doors.holders("u"), ["a"])
        history.put(least_ladder(Demands(Doors(3, ["a", "b"], {}, {"s": ["a", "b"]}), [], [])))
        self.assertEqual(hand_on(history, "c", "r", Sum.of(3, s=1)).doors.holders("s"), ["a", "b"])

    def test_edges(self):
        history = added()
        ladder = hand_on(history, "c", "u", Sum(3, {}, 2))
        self.assertEqual([ladder.doors.ins(), ladder.relations.basis()], [[], [Sum(3, {"u": 1}, 1)]])
        history = History(3, ["a"])
        for at in range(10):
            history.own("a", f"x{at}")
        nine = Sum(3, {f"x{at}": 1 for at in range(9)})
        self.assertEqual(len(hand_on(history, "a", "u", nine).doors.names()), 10)
        before = history.copied()
        fails(self, TooMany, hand_on, history, "a", "v", Sum(3, {f"x{at}": 1 for at in range(10)}), limit=10)
        self.assertEqual(history, before)

    def test_wrong(self):
        history = added()
        history.stop("b")
        history.enter("d")
        before = history.copied()
        for value in (*NO_NAMES, "b", "x"):
            fails(self, UnknownHand, hand_on, history, value, "X", None, value=value)
        for value in NO_NAMES:
            fails(self, InvalidName, hand_on, history, "d", value, None, value=value)
        for value in ("x", "y", "t"):
            fails(self, NameTaken, hand_on, history, "d", value, None, name=value)
        for value in (*NO_SUMS, Sum.of(5, x=1), Sum(2, {})):
            fails(self, InvalidSum, hand_on, history, "d", "u", value, value=value)
        fails(self, UnknownName, hand_on, history, "d", "u", X + Y, name="y")
        fails(self, UnknownName, hand_on, history, "d", "u", X + Sum.of(3, d=1, q=1), name="d")
        many = Sum(3, {f"x{at}": 1 for at in range(12)})
        fails(self, UnknownName, hand_on, history, "d", "u", many, name="x0")
        self.assertEqual(history, before)

    def test_nobody_learns_more(self):
        many = 0
        for seed in range(150):
            story, chance = random_story(seed), Random(seed)
            history = story.history
            target = random_sum(chance, history.modulus, history.names())
            if not history.hands() or loss(history, target) is not None:
                continue
            total = expressed(history, target)
            watch = random_sittings(chance, story)
            group = chance.sample(history.hands(), chance.randrange(len(history.hands()) + 1))
            hand = chance.choice(history.hands())
            views = [total for scene, sitting in zip(history.scenes(), watch) for total in scene.space(sitting).basis()]
            views += tellable(history, group).basis() + ([total] if hand in group else [])
            hand_on(history, hand, "new", total)
            private = history.own_names()
            wanted = Space(history.modulus, views).without([name for name in history.names() if name not in private])
            self.assertEqual(learned_of(history, [*watch, group]), wanted)
            self.assertIn(target, tellable(history, [hand]))
            many += len(total.names()) > 1
        self.assertGreater(many, 20)


def plain_fewest(history, target):
    """Return the fewest sittings by the words of the document."""
    places = [(at, hand) for at, scene in enumerate(history.scenes()) for hand in scene.hands()]
    for many in range(4):
        for chosen in combinations(places, many):
            watch = [[hand for place, hand in chosen if place == at] for at in range(len(history))]
            if target in learned_of(history, watch):
                return list(chosen)
    return None


class Fewest(unittest.TestCase):
    def test_example(self):
        history = added()
        self.assertEqual(fewest_sittings(history, X), [(0, "a")])
        self.assertEqual(fewest_sittings(history, X + Y), [(0, "c")])
        self.assertEqual(fewest_sittings(target=X - Y, history=history), [(0, "a"), (0, "b")])
        self.assertEqual(fewest_sittings(history, Sum(3, {}, 1)), [])
        self.assertEqual(fewest_sittings(told(), X + Y), [])

    def test_by_trying_all(self):
        sizes = set()
        for seed in range(250):
            story, chance = random_story(seed), Random(seed)
            history = story.history
            target = random_sum(chance, history.modulus, history.own_names())
            found = fewest_sittings(history, target)
            self.assertEqual(found, plain_fewest(history, target))
            sizes.add(None if found is None else len(found))
        self.assertLessEqual({None, 0, 1, 2}, sizes)

    def test_more_than_three(self):
        history = History(2, ["a", "b", "c", "d"])
        for hand in history.hands():
            history.own(hand, hand)
        history.put(least_ladder(Demands(Doors(2, ["a"], {}, {}), [], [])))
        self.assertIsNone(fewest_sittings(history, Sum.of(2, a=1, b=1, c=1, d=1)))
        self.assertEqual(fewest_sittings(history, Sum.of(2, a=1, b=1, d=1)), [(0, "a"), (0, "b"), (0, "d")])

    def test_twenty_four(self):
        history = History(3, ["a", "b", "c", "d"])
        empty = least_ladder(Demands(Doors(3, ["a"], {}, {}), [], []))
        for at in range(6):
            history.own("d", f"x{at}")
            history.put(empty)
            history.drop("d", f"x{at}")
        self.assertEqual(fewest_sittings(history, Sum.of(3, x0=1, x2=2, x5=1)), [(0, "d"), (2, "d"), (5, "d")])
        self.assertIsNone(fewest_sittings(history, Sum.of(3, x0=1, x2=2, x5=1, x1=1)))
        for hand in ("b", "c", "d"):
            history.stop(hand)
        history.put(empty)
        fails(self, TooMany, fewest_sittings, history, None, limit=24)

    def test_wrong(self):
        history = added()
        for value in (*NO_SUMS, Sum.of(5, x=1), Sum(2, {})):
            fails(self, InvalidSum, fewest_sittings, history, value, value=value)
        fails(self, UnknownName, fewest_sittings, history, X + T, name="t")
        fails(self, UnknownName, fewest_sittings, history, Sum.of(3, q=1, a=1), name="a")

    def test_new_lists(self):
        history = added()
        fewest_sittings(history, X).clear()
        least_tellers(history, X).clear()
        loss_free = added()
        loss_free.stop("a")
        loss_free.stop("b")
        loss(loss_free, X).clear()
        self.assertEqual([fewest_sittings(history, X), len(least_tellers(history, X))], [[(0, "a")], 2])
        self.assertTrue(is_loss(loss_free, X, loss(loss_free, X)))


if __name__ == "__main__":
    unittest.main()
