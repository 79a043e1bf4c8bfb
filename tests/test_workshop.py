"""Point [43]: a workshop, the table of its commands, its log and what is undone."""

import unittest
from random import Random

from quietsums.demands import Demands, least_ladder
from quietsums.doors import Doors
from quietsums.errors import InvalidCommand, InvalidModulus, MissingName, NameTaken, NothingToUndo, TooMany, UnknownHand
from quietsums.errors import UnknownName
from quietsums.histories import History
from quietsums.mending import expressed, hand_on, learned_of, least_tellers, loss, public
from quietsums.sums import Sum
from quietsums.workshop import Workshop
from tests.helpers import NO_MODULI, Plain, fails

START = ("enter b", "enter a", "enter c", "own a x", "own b y")
X, Y, T = Sum.of(5, x=1), Sum.of(5, y=1), Sum.of(5, t=1)


def opened(*commands):
    shop = Workshop(5)
    for command in (*START, *commands):
        shop.execute(command)
    return shop


def started():
    """Return the history behind START."""
    history = History(5, ["a", "b", "c"])
    history.own("a", "x")
    history.own("b", "y")
    return history


class Changing(unittest.TestCase):
    def test_enter_and_stop(self):
        shop = Workshop(modulus=5)
        self.assertEqual([shop.execute(command) for command in ("enter b", "enter a", "stop b", "stop a", "enter outer")],
                         ["b", "a b", "a", "-", "outer"])
        wanted = History(5, ["b", "a", "outer"])
        wanted.stop("a")
        wanted.stop("b")
        self.assertEqual(shop.history(), wanted)

    def test_own_and_drop(self):
        shop = Workshop(5)
        answers = [shop.execute(command=command) for command in ("enter a", "own a z", "own a b", "drop a z", "drop a b")]
        self.assertEqual(answers, ["a", "z", "b z", "b", "-"])
        self.assertEqual([shop.history().held("a"), shop.history().own_names()], [[], ["b", "z"]])

    def test_give(self):
        shop, history = opened(), started()
        self.assertEqual(shop.execute("give c t = 2 x + y + 3"), "0")
        self.assertEqual(shop.execute("give c u = 4"), "1")
        hand_on(history, "c", "t", X * 2 + Y + Sum(5, {}, 3))
        hand_on(history, "c", "u", Sum(5, {}, 4))
        self.assertEqual(shop.history(), history)

    def test_round(self):
        shop, history = opened("own a k"), started()
        history.own("a", "k")
        self.assertEqual(shop.execute("round c a b ; t : c = x + y ; s : b a = 2 x + 1"), "0")
        s = Sum.of(5, s=1)
        doors = Doors(5, ["a", "b", "c"], {"x": ["a"], "y": ["b"]}, {"t": ["c"], "s": ["a", "b"]})
        history.put(least_ladder(Demands(doors, [T - X - Y, s - X * 2 - Sum(5, {}, 1)], [])))
        self.assertEqual(shop.history(), history)
        # Only hands that take part hold the ins, and are in the round.
        self.assertEqual(shop.execute("round b ; u : b = s ; v : b = 0"), "1")
        u, v = Sum.of(5, u=1), Sum.of(5, v=1)
        history.put(least_ladder(Demands(Doors(5, ["b"], {"s": ["b"]}, {"u": ["b"], "v": ["b"]}), [u - s, v], [])))
        self.assertEqual(shop.history(), history)

    def test_errors_of_changes(self):
        shop = opened("stop c", "give a t = x + y")
        for command, error, wanted in (
                ("enter a", NameTaken, {"name": "a"}), ("enter c", NameTaken, {"name": "c"}), ("stop c", UnknownHand, {"value": "c"}),
                ("stop q", UnknownHand, {"value": "q"}), ("own c x", UnknownHand, {"value": "c"}), ("own a x", NameTaken, {"name": "x"}),
                ("own b t", NameTaken, {"name": "t"}), ("drop q x", UnknownHand, {"value": "q"}),
                ("drop b x", MissingName, {"name": "x", "hand": "b"}), ("drop b q", MissingName, {"name": "q", "hand": "b"}),
                ("give c x = q", UnknownHand, {"value": "c"}), ("give a x = q", NameTaken, {"name": "x"}),
                ("give a u = q + x + z", UnknownName, {"name": "q"}),
                ("round b d c ; x : b = q", UnknownHand, {"value": "d"}), ("round c d ; x : c = q", UnknownHand, {"value": "c"}),
                ("round a b ; u : a = q ; x : b = x", NameTaken, {"name": "x"}), ("round a ; u : a = x ; u : a = q", NameTaken, {"name": "u"}),
                ("round a ; t : a = x ; x : a = q", NameTaken, {"name": "t"}), ("round a ; u : a = x ; v : a = y", UnknownName, {"name": "y"}),
                ("round a b ; u : a = z ; v : a = u", UnknownName, {"name": "u"}), ("round a ; u : a = x ; v : a = u", UnknownName, {"name": "u"}),
                ("round a b c d e ; u : a = x", UnknownHand, {"value": "c"})):
            self.unchanged(shop, command, error, **wanted)

    def unchanged(self, shop, command, error, **wanted):
        history, log = shop.history(), shop.log()
        fails(self, error, shop.execute, command, **wanted)
        self.assertEqual([shop.history(), shop.log()], [history, log])
        fails(self, error, shop.execute_all, "own a zz", command, **wanted)
        self.assertEqual([shop.history(), shop.log()], [history, log])

    def test_too_many(self):
        shop = opened("enter d")
        self.unchanged(shop, "enter e", TooMany, limit=4)
        for at in range(10):
            shop.execute(f"own a x{at}")
        nine = " + ".join(f"x{at}" for at in range(9))
        self.unchanged(shop, f"give b u = {nine} + y", TooMany, limit=10)
        self.unchanged(shop, f"round a ; u : a = {nine} ; v : a = 0", TooMany, limit=10)
        shop.execute(f"round a ; u : a = {nine}")
        shop.execute(f"give b v = {nine}")
        self.assertEqual([len(ladder.doors.names()) for ladder in shop.history().rounds()], [10, 10])


class Asking(unittest.TestCase):
    def test_tellers(self):
        shop = opened("round a b c ; t : c = x + y")
        self.assertEqual(shop.execute("tellers x"), "a , b c")
        self.assertEqual(shop.execute("tellers 2 x + 2 y + 1"), "c , a b")
        self.assertEqual(shop.execute("tellers t + 4 x + 4 y"), "nobody")
        self.assertEqual(shop.execute("tellers 0"), "nobody")
        shop.execute("stop c")
        shop.execute("drop a x")
        self.assertEqual([shop.execute("tellers x"), shop.execute("tellers t")], ["-", "-"])

    def test_express(self):
        shop = opened("round a b c ; t : c = x + y", "drop a x")
        history = shop.history()
        for target in (X, X * 2 + Sum(5, {}, 3), T, X + Y, Sum(5, {}, 1)):
            found = Sum.parse(5, shop.execute(f"express {target}"))
            self.assertIn(found - target, public(history))
            self.assertLessEqual(set(found.names()), {"t", "y"})
        self.assertEqual(shop.execute(f"express {X}"), str(expressed(history, X)))
        shop.execute("stop b")
        self.assertEqual([shop.execute("express x"), shop.execute("express x + y")], ["lost", "t"])

    def test_knows(self):
        shop = opened("round a b c ; t : c = x + y", "stop c", "enter d", "give d v = x")
        for command, answer in (("knows c : x + y", "yes"), ("knows c : x", "no"), ("knows c d : x", "yes"), ("knows d c : y", "yes"),
                                ("knows d : x", "yes"), ("knows d : y", "no"), ("knows a b : 3 x + 2 y + 1", "yes"), ("knows d : 2", "yes"),
                                ("knows a : x", "yes"), ("knows a : y", "no")):
            self.assertEqual(shop.execute(command), answer)
        # Without rounds nobody sits anywhere.
        shop = opened()
        self.assertEqual([shop.execute("knows a : x"), shop.execute("knows a : 1")], ["no", "yes"])

    def test_errors_of_questions(self):
        shop = opened("give c t = x", "stop c")
        for command, error, wanted in (
                ("tellers q + x", UnknownName, {"name": "q"}), ("express b + q", UnknownName, {"name": "b"}),
                ("knows a e d : q", UnknownHand, {"value": "e"}), ("knows c : t", UnknownName, {"name": "t"}),
                ("knows a b c : q + x", UnknownName, {"name": "q"})):
            log = shop.log()
            fails(self, error, shop.execute, command, **wanted)
            self.assertEqual(shop.log(), log)


class Undoing(unittest.TestCase):
    def test_back(self):
        shop = Workshop(5)
        commands = [*START, "give c t = x + y", "round a c ; u : a = t", "drop c t", "stop b", "enter e"]
        before = []
        for command in commands:
            before.append(shop.history())
            shop.execute(command)
            shop.execute("tellers 0")
        for command, history in list(zip(commands, before))[::-1]:
            self.assertEqual(shop.execute("back"), command)
            self.assertEqual(shop.history(), history)
        fails(self, NothingToUndo, shop.execute, "back")
        self.assertEqual(shop.history(), History(5, []))

    def test_back_and_on(self):
        shop = opened()
        self.assertEqual([shop.execute("back"), shop.execute("own b z"), shop.execute("back"), shop.execute("back")],
                         ["own b y", "z", "own b z", "own a x"])
        # What was undone was never had.
        self.assertEqual(shop.execute("own c x"), "x")
        shop.execute("stop a")
        shop.execute("back")
        self.assertEqual(shop.execute("own a y"), "y")
        self.assertEqual(shop.log()[5:], ["back", "own b z", "back", "back", "own c x", "stop a", "back", "own a y"])

    def test_back_after_an_error(self):
        shop = opened()
        fails(self, NameTaken, shop.execute, "own a x", name="x")
        self.assertEqual(shop.execute("back"), "own b y")

    def test_nothing(self):
        shop = Workshop(2)
        fails(self, NothingToUndo, shop.execute, "back")
        with self.assertRaises(NothingToUndo) as caught:
            shop.execute_all("enter a", "back", "back")
        self.assertNotEqual(str(caught.exception), "")
        self.assertEqual([shop.log(), shop.history()], [[], History(2, [])])


class All(unittest.TestCase):
    def test_all(self):
        shop, other = Workshop(5), opened("tellers x", "back")
        self.assertEqual(shop.execute_all(), [])
        answers = shop.execute_all(*START, "tellers x", "back")
        self.assertEqual(answers, ["b", "a b", "a b c", "x", "y", "a", "own b y"])
        self.assertEqual([shop.history(), shop.log()], [other.history(), other.log()])
        self.assertEqual(shop.execute("back"), "own a x")

    def test_one_refused(self):
        shop = opened()
        history, log = shop.history(), shop.log()
        for wrong, error in (("own a x", NameTaken), ("nonsense", InvalidCommand), (None, InvalidCommand), ("stop q", UnknownHand)):
            fails(self, error, shop.execute_all, "own c z", "back", "back", "stop b", wrong, "enter d")
            self.assertEqual([shop.history(), shop.log()], [history, log])
        self.assertEqual(shop.execute("back"), "own b y")
        fails(self, InvalidCommand, shop.execute_all, ["own a m"], value=["own a m"])

    def test_copies(self):
        shop = opened()
        history = shop.history()
        shop.history().own("c", "z")
        shop.log().clear()
        shop.execute_all("tellers x").clear()
        self.assertEqual([shop.history(), shop.log()], [history, [*START, "tellers x"]])
        shop.execute("own c z")
        self.assertEqual(history.held("c"), [])

    def test_equal_to_itself_alone(self):
        shop, other = opened(), opened()
        self.assertTrue(shop == shop)
        self.assertFalse(shop == other)
        self.assertFalse(shop == shop.history())

    def test_like_the_functions(self):
        for seed in range(30):
            chance, shop = Random(seed), opened("enter d")
            for at in range(12):
                history = shop.history()
                held = sorted({name for hand in history.hands() for name in history.held(hand)})
                hands = history.hands()
                total = Sum(5, {name: chance.randrange(5) for name in chance.sample(held, min(2, len(held)))}, chance.randrange(5))
                kind = chance.choice(("give", "round", "drop", "tellers", "express", "knows"))
                hand = chance.choice(hands)
                if kind == "give":
                    hand_on(history, hand, f"n{at}", total)
                    self.assertEqual(shop.execute(f"give {hand} n{at} = {total}"), str(len(history) - 1))
                elif kind == "drop" and history.held(hand):
                    name = chance.choice(history.held(hand))
                    history.drop(hand, name)
                    self.assertEqual(shop.execute(f"drop {hand} {name}"), " ".join(history.held(hand)) or "-")
                elif kind == "round":
                    shop.execute(f"round {' '.join(hands)} ; n{at} : {hand} = {total}")
                    hand_on(history, hand, f"n{at}", total)
                elif kind == "tellers":
                    groups = [" ".join(group) or "nobody" for group in least_tellers(history, total)]
                    self.assertEqual(shop.execute(f"tellers {total}"), " , ".join(groups) or "-")
                elif kind == "express":
                    self.assertEqual(shop.execute(f"express {total}") == "lost", loss(history, total) is not None)
                elif kind == "knows":
                    known = X * chance.randrange(5) + Y * chance.randrange(5)
                    wanted = known in learned_of(history, [[hand] for _ in history.rounds()])
                    self.assertEqual(shop.execute(f"knows {hand} : {known}"), "yes" if wanted else "no")
                self.assertEqual(shop.history(), history)


class Wrong(unittest.TestCase):
    def test_modulus(self):
        for value in NO_MODULI:
            fails(self, InvalidModulus, Workshop, value, value=value)

    def test_no_commands(self):
        shop = opened("own c z")
        history, log = shop.history(), shop.log()
        wrong = [None, True, 0, 5, b"back", [], ["back"], ("back",), {}, Plain(), "", " ", "x", "Back", "back ", " back", "back 1",
                 "back\n", "undo"]
        for word in ("enter", "stop"):
            wrong += [word, f"{word} ", f"{word} A", f"{word}  d", f"{word} d e", f" {word} d", f"{word} d ", f"{word} 1d", f"{word}\td",
                      f"{word} abcdefghijklm"]
        for word in ("own", "drop"):
            wrong += [word, f"{word} a", f"{word} a k k", f"{word} a K", f"{word} A k", f"{word} a  k", f"{word} a k ", f"{word} a, k"]
        wrong += ["give", "give a k", "give a k =", "give a k = ", "give a k  = x", "give a k =  x", "give a k = x ", "give a = x", "give a k k = x",
                  "give A k = x", "give a K = x", "give a k = 1 x", "give a k = x + 5", "give a k = z + x", "give a k = x = x", "give a k x",
                  "give a k : x", "give a k=x"]
        wrong += ["round", "round a", "round a ;", "round a ; ", "round a ; k", "round a ; k : a", "round a ; k : a =", "round a ; k : = x",
                  "round a ; k = x", "round a ; k : b = x", "round a b ; k : a c = x", "round a a ; k : a = x", "round a ; k : a a = x",
                  "round ; k : a = x", "round a ; K : a = x", "round a ; k : a = 1 x", "round a; k : a = x", "round a ;  k : a = x",
                  "round a  b ; k : a = x", "round a ; k : a = x ;", "round a ; k : a = x ; ", "round a ; k : a = x ; m", "round a ; k : a : a = x",
                  "round a ; k m : a = x", "round A ; k : a = x", "round a ; k : a = x ; m : b = x", "round q ; k : a = x"]
        for word in ("tellers", "express"):
            wrong += [word, f"{word} ", f"{word} X", f"{word} x ", f"{word}  x", f"{word} 1 x", f"{word} y + x", f"{word} x + x", f"{word} 5",
                      f"{word} 7 x", f"{word} a : x"]
        wrong += ["knows", "knows x", "knows a x", "knows a :", "knows a : ", "knows : x", "knows a a : x", "knows A : x", "knows a  : x",
                  "knows a :  x", "knows a : x ", "knows a: x", "knows a : y + x", "knows a : x : x", "knows a  b : x"]
        for command in wrong:
            fails(self, InvalidCommand, shop.execute, command, value=command)
            self.assertEqual([shop.history(), shop.log()], [history, log])


if __name__ == "__main__":
    unittest.main()
