"""Point [35]: histories, with hands that enter, stop, own, drop, and with rounds."""

import unittest

from quietsums.demands import Demands, least_ladder
from quietsums.doors import Doors
from quietsums.errors import InvalidHands, InvalidModulus, InvalidName, MissingName, NameTaken, OtherModulus
from quietsums.errors import TooMany, UnknownHand
from quietsums.histories import History
from quietsums.sums import Sum
from tests.helpers import NO_LISTS, NO_MODULI, NO_NAMES, Plain, fails

NO_HANDS = (None, True, False, 0, 1, "", "q", "A", b"a", [], ["a"], (), ("a",), {}, {"a": 1}, "x", Plain())


def sum_ladder(modulus=5, hands=("a", "b"), ins=None, outs=None):
    """Return the least ladder of the doors in which each out is the sum of all ins."""
    ins = {"x": ["a"]} if ins is None else ins
    outs = {"y": ["b"]} if outs is None else outs
    total = Sum(modulus, {name: 1 for name in ins})
    relations = [Sum(modulus, {name: 1}) - total for name in outs]
    return least_ladder(Demands(Doors(modulus, list(hands), ins, outs), relations, []))


def started():
    """Return a history in which a owns x and sends it to b as y."""
    history = History(5, ["b", "a"])
    history.own("a", "x")
    history.put(sum_ladder())
    return history


def state(history):
    """Return all that the lists of a history tell."""
    return (history.modulus, len(history), history.hands(), history.names(), history.own_names(), history.rounds(),
            [history.held(hand) for hand in history.hands()])


class Changes(unittest.TestCase):
    def test_new(self):
        history = History(7, ["d", "b", "a", "c"])
        self.assertEqual(state(history), (7, 0, ["a", "b", "c", "d"], [], [], [], [[], [], [], []]))
        self.assertEqual(state(History(hands=(), modulus=2)), (2, 0, [], [], [], [], []))

    def test_own(self):
        history = History(5, ["a", "b"])
        self.assertIsNone(history.own("b", "x"))
        history.own(name="k", hand="b")
        history.own("a", "b")
        self.assertEqual(state(history), (5, 0, ["a", "b"], ["b", "k", "x"], ["b", "k", "x"], [], [["b"], ["k", "x"]]))

    def test_put(self):
        history = started()
        self.assertEqual(state(history), (5, 1, ["a", "b"], ["x", "y"], ["x"], [sum_ladder()], [["x"], ["y"]]))
        # The ins are held by others, too; a hand that is present does not take part; an out has two holders.
        history.enter("c")
        ladder = sum_ladder(hands=["c", "b"], ins={"y": ["b"]}, outs={"z": ["c", "b"], "u": ["c"]})
        self.assertIsNone(history.put(ladder=ladder))
        self.assertEqual(history.rounds(), [sum_ladder(), ladder])
        self.assertEqual([history.held(hand) for hand in "abc"], [["x"], ["y", "z"], ["u", "z"]])
        self.assertEqual([history.names(), history.own_names()], [["u", "x", "y", "z"], ["x"]])
        self.assertEqual(len(history), 2)

    def test_drop(self):
        history = started()
        self.assertIsNone(history.drop("a", "x"))
        history.drop(name="y", hand="b")
        self.assertEqual(state(history), (5, 1, ["a", "b"], ["x", "y"], ["x"], [sum_ladder()], [[], []]))
        # A name that nobody holds is taken all the same.
        fails(self, NameTaken, history.own, "a", "x", name="x")
        fails(self, NameTaken, history.own, "b", "y", name="y")
        fails(self, MissingName, history.put, sum_ladder(outs={"z": ["b"]}), name="x", hand="a")
        fails(self, MissingName, history.drop, "a", "x", name="x", hand="a")

    def test_stop_and_enter(self):
        history = started()
        self.assertIsNone(history.stop("a"))
        self.assertEqual([history.hands(), history.names(), history.own_names()], [["b"], ["x", "y"], ["x"]])
        fails(self, UnknownHand, history.held, "a", value="a")
        fails(self, NameTaken, history.enter, "a", name="a")
        self.assertIsNone(history.enter("c"))
        # A hand may be called like a name.
        history.enter(hand="x")
        self.assertEqual([history.hands(), history.held("x"), history.held(hand="c")], [["b", "c", "x"], [], []])
        history.own("x", "b")
        self.assertEqual(history.held("x"), ["b"])
        for hand in ("x", "b", "c"):
            history.stop(hand)
        self.assertEqual([history.hands(), history.names(), len(history)], [[], ["b", "x", "y"], 1])
        history.enter("d")
        self.assertEqual(history.hands(), ["d"])

    def test_four_hands(self):
        history = History(5, ["a", "b", "c"])
        history.enter("d")
        fails(self, TooMany, history.enter, "e", limit=4)
        history.stop("b")
        history.enter("e")
        self.assertEqual(history.hands(), ["a", "c", "d", "e"])
        fails(self, TooMany, history.enter, "f", limit=4)
        fails(self, NameTaken, history.enter, "b", name="b")

    def test_round_without_doors(self):
        history = History(5, ["a"])
        history.put(sum_ladder(hands=["a"], ins={}, outs={}))
        history.put(sum_ladder(hands=["a"], ins={}, outs={"y": ["a"]}))
        self.assertEqual([len(history), history.names(), history.own_names()], [2, ["y"], []])


class Copies(unittest.TestCase):
    def test_copied(self):
        history = started()
        other = history.copied()
        self.assertIs(type(other), History)
        self.assertEqual(other, history)
        self.assertEqual(state(other), state(history))
        before = state(history)
        other.own("b", "k")
        other.drop("a", "x")
        other.put(sum_ladder(ins={"y": ["b"]}, outs={"z": ["a"]}))
        other.enter("c")
        other.stop("b")
        self.assertEqual(state(history), before)
        self.assertNotEqual(other, history)
        again = history.copied()
        history.drop("b", "y")
        self.assertEqual(again.held("b"), ["y"])
        fails(self, NameTaken, again.own, "a", "y", name="y")
        fails(self, NameTaken, again.enter, "a", name="a")

    def test_lists_are_new(self):
        hands = ["a", "b"]
        history = History(5, hands)
        hands.append("c")
        history.own("a", "x")
        for found in (history.hands(), history.names(), history.own_names(), history.held("a"), history.rounds()):
            found.append("q")
        self.assertEqual(state(history), (5, 0, ["a", "b"], ["x"], ["x"], [], [["x"], []]))

    def test_equal(self):
        self.assertEqual(started(), started())
        self.assertEqual(History(5, ["b", "a"]), History(5, ("a", "b")))
        one, other = History(5, ["a", "b"]), History(5, ["b"])
        self.assertNotEqual(one, other)
        other.enter("a")
        self.assertEqual(one, other)
        for value in (None, 5, "history", [], one.hands(), Plain()):
            self.assertFalse(one == value)

    def test_not_equal(self):
        def changed(*changes):
            history = started()
            for name, *given in changes:
                getattr(history, name)(*given)
            return history
        known = least_ladder(Demands(Doors(5, ["a", "b"], {"x": ["a"]}, {"y": ["b"]}), [Sum.of(5, y=1, x=4)], [([], Sum.of(5, x=1))]))
        other_ladder = History(5, ["a", "b"])
        other_ladder.own("a", "x")
        other_ladder.put(known)
        found = [started(), changed(("drop", "a", "x")), changed(("own", "a", "k")), changed(("own", "b", "k")),
                 changed(("enter", "c")), changed(("enter", "c"), ("stop", "c")), changed(("enter", "d"), ("stop", "d")),
                 changed(("put", sum_ladder(ins={}, outs={"k": ["a"]}))), changed(("own", "a", "k"), ("drop", "a", "k")),
                 changed(("stop", "b")), other_ladder, History(5, ["a", "b"]), History(7, ["a", "b"])]
        for at, one in enumerate(found):
            for other in found[at + 1:]:
                self.assertNotEqual(one, other)

    def test_rounds_differ_by_what_was_held(self):
        def history(before):
            found = History(5, ["a", "b"])
            found.own("a", "x")
            found.own("a", "k")
            if before:
                found.drop("a", "k")
            found.put(sum_ladder())
            if not before:
                found.drop("a", "k")
            return found
        one, other = history(True), history(False)
        self.assertEqual(state(one), state(other))
        self.assertNotEqual(one, other)

    def test_rounds_differ_by_who_was_present(self):
        def history(before):
            found = History(5, ["a", "b", "c"])
            found.own("a", "x")
            if before:
                found.stop("c")
            found.put(sum_ladder())
            if not before:
                found.stop("c")
            return found
        self.assertEqual(state(history(True)), state(history(False)))
        self.assertNotEqual(history(True), history(False))
        self.assertEqual(history(True), history(True))


class Wrong(unittest.TestCase):
    def unchanged(self, history, error, call, *arguments, **wanted):
        before, copy = state(history), history.copied()
        fails(self, error, call, *arguments, **wanted)
        self.assertEqual(state(history), before)
        self.assertEqual(history, copy)

    def test_new(self):
        for value in NO_MODULI:
            fails(self, InvalidModulus, History, value, None, value=value)
        for value in (*NO_LISTS, ["a", "b", "c", "d", "e"]):
            fails(self, InvalidHands, History, 5, value, position=None)
        for value in (*NO_NAMES, "a"):
            fails(self, InvalidHands, History, 5, ["a", value], position=1)
        fails(self, InvalidHands, History, 5, ["a", "b", "b", 1], position=2)

    def test_unknown_hands(self):
        history = started()
        for value in NO_HANDS:
            self.unchanged(history, UnknownHand, history.held, value, value=value)
            self.unchanged(history, UnknownHand, history.own, value, "X", value=value)
            self.unchanged(history, UnknownHand, history.drop, value, "q", value=value)
            self.unchanged(history, UnknownHand, history.stop, value, value=value)
        history.stop("b")
        for call in (history.held, history.stop, lambda hand: history.own(hand, "x"), lambda hand: history.drop(hand, "y")):
            self.unchanged(history, UnknownHand, call, "b", value="b")

    def test_names(self):
        history = started()
        for value in NO_NAMES:
            self.unchanged(history, InvalidName, history.own, "a", value, value=value)
            self.unchanged(history, InvalidName, history.enter, value, value=value)
        for value in (*NO_NAMES, "y", "a", "q"):
            self.unchanged(history, MissingName, history.drop, "a", value, name=value, hand="a")
        self.unchanged(history, NameTaken, history.own, "a", "x", name="x")
        self.unchanged(history, NameTaken, history.own, "a", "y", name="y")
        self.unchanged(history, NameTaken, history.enter, "b", name="b")

    def test_rounds(self):
        history = started()
        history.enter("c")
        history.own("c", "k")
        self.unchanged(history, OtherModulus, history.put, sum_ladder(7, ["q"], {}, {}), given=7, expected=5)
        wide = sum_ladder(hands=["q", "a", "p"], ins={"z": ["p"]}, outs={"x": ["p"]})
        self.unchanged(history, UnknownHand, history.put, wide, value="p")
        missing = sum_ladder(hands=["c", "b", "a"], ins={"k": ["c", "a", "b"], "z": ["a"]}, outs={"x": ["a"]})
        self.unchanged(history, MissingName, history.put, missing, name="k", hand="a")
        missing = sum_ladder(hands=["c", "b", "a"], ins={"k": ["c"], "z": ["a"]}, outs={"x": ["a"]})
        self.unchanged(history, MissingName, history.put, missing, name="z", hand="a")
        taken = sum_ladder(ins={}, outs={"z": ["a"], "y": ["a"], "k": ["a"]})
        self.unchanged(history, NameTaken, history.put, taken, name="k")
        self.unchanged(history, NameTaken, history.put, sum_ladder(), name="y")
        history.stop("a")
        self.unchanged(history, UnknownHand, history.put, sum_ladder(outs={"z": ["b"]}), value="a")

    def test_two_wrong(self):
        history = History(5, ["a", "b", "c", "d"])
        history.own("a", "x")
        self.unchanged(history, UnknownHand, history.own, "q", "x", value="q")
        self.unchanged(history, UnknownHand, history.drop, "q", 5, value="q")
        self.unchanged(history, NameTaken, history.enter, "a", name="a")
        self.unchanged(history, InvalidName, history.enter, "A", value="A")
        self.unchanged(history, OtherModulus, history.put, sum_ladder(3, ["q"], {"z": ["q"]}, {"x": ["q"]}), given=3, expected=5)
        self.unchanged(history, MissingName, history.put, sum_ladder(ins={"x": ["b"]}, outs={"x1": ["a"]}), name="x", hand="b")
        history.stop("d")
        self.unchanged(history, NameTaken, history.enter, "d", name="d")
        history.enter("e")
        self.unchanged(history, NameTaken, history.enter, "d", name="d")


if __name__ == "__main__":
    unittest.main()
