"""Point [42]: texts of plans, parts and demands, line by line, and read back."""

import unittest

from quietsums.demands import Demands
from quietsums.doors import Doors
from quietsums.errors import InvalidText
from quietsums.parts import Part
from quietsums.plans import Plan
from quietsums.sums import Sum
from quietsums.texts import demands_text, part_text, plan_text, read_demands, read_part, read_plan
from tests.door_helpers import random_demands, random_part
from tests.helpers import Plain, fails, random_plan

PLAN = """modulus 5
hands b a
own a x
draw a r
make a s = 4 r + x + 3
send a b s
tell b s
drop a s
make b zero = 0
want b s = 2 x
"""
PART = """modulus 3
hands a b
in w : a b
in x : a
out y : b
out z : a b
draw a r
make a y = r + 2 w + x + 1
send a b y
make b z = 2
tell b z
drop a r
"""
DEMANDS = """modulus 3
hands a b
in w : a b
in x : a
out y : b
hold w + x + 2 y + 1
hold 0
must a : y
must : x + 1
must a b : 2
must b : x
"""
NO_TEXTS = (None, True, False, 0, 5, b"modulus 5\n", [], ["modulus 5"], (), {}, Plain())


def lines_of(text):
    return text.split("\n")[:-1]


def joined(lines):
    return "".join(line + "\n" for line in lines)


class Written(unittest.TestCase):
    def test_plan(self):
        steps = [("own", "a", "x"), ("draw", "a", "r"), ("make", "a", "s", Sum(5, {"x": 1, "r": 4}, 3)), ("send", "a", "b", "s"),
                 ("tell", "b", "s"), ("drop", "a", "s"), ("make", "b", "zero", Sum(5, {})), ("want", "b", "s", Sum.of(5, x=2))]
        plan = Plan(5, ["b", "a"], steps)
        self.assertEqual(plan_text(plan), PLAN)
        self.assertEqual(read_plan(PLAN), plan)
        self.assertEqual(plan_text(plan=Plan(13, ["a"], [])), "modulus 13\nhands a\n")
        self.assertEqual(read_plan(text="modulus 13\nhands a\n"), Plan(13, ["a"], []))

    def test_part(self):
        doors = Doors(3, ["b", "a"], {"x": ["a"], "w": ["b", "a"]}, {"z": ["b", "a"], "y": ["b"]})
        steps = [("draw", "a", "r"), ("make", "a", "y", Sum(3, {"x": 1, "w": 2, "r": 1}, 1)), ("send", "a", "b", "y"),
                 ("make", "b", "z", Sum(3, {}, 2)), ("tell", "b", "z"), ("drop", "a", "r")]
        part = Part(doors, steps)
        self.assertEqual(part_text(part), PART)
        self.assertEqual(read_part(PART), part)
        empty = Part(Doors(2, ["a"], {}, {}), [])
        self.assertEqual([part_text(part=empty), read_part(text="modulus 2\nhands a\n")], ["modulus 2\nhands a\n", empty])

    def test_demands(self):
        doors = Doors(3, ["b", "a"], {"x": ["a"], "w": ["b", "a"]}, {"y": ["b"]})
        relations = [Sum(3, {"w": 1, "x": 1, "y": 2}, 1), Sum(3, {})]
        must = [(["a"], Sum.of(3, y=1)), ([], Sum(3, {"x": 1}, 1)), (["b", "a"], Sum(3, {}, 2)), (["b"], Sum.of(3, x=1))]
        demands = Demands(doors, relations, must)
        self.assertEqual(demands_text(demands), DEMANDS)
        self.assertEqual(read_demands(DEMANDS), demands)
        empty = Demands(Doors(2, ["a"], {}, {}), [], [])
        self.assertEqual([demands_text(demands=empty), read_demands(text="modulus 2\nhands a\n")], ["modulus 2\nhands a\n", empty])

    def test_back(self):
        for seed in range(150):
            plan, part, demands = random_plan(seed), random_part(seed), random_demands(seed)
            self.assertEqual(read_plan(plan_text(plan)), plan)
            self.assertEqual(read_part(part_text(part)), part)
            self.assertEqual(read_demands(demands_text(demands)), demands)
            self.assertEqual(demands_text(read_demands(demands_text(demands))), demands_text(demands))


class NoText(unittest.TestCase):
    def test_no_strings(self):
        for read in (read_plan, read_part, read_demands):
            for value in NO_TEXTS:
                fails(self, InvalidText, read, value, line=None)

    def test_cut_off(self):
        for read, text in ((read_plan, PLAN), (read_part, PART), (read_demands, DEMANDS)):
            fails(self, InvalidText, read, "", line=1)
            lines = lines_of(text)
            fails(self, InvalidText, read, joined(lines[:1]), line=2)
            for at, line in enumerate(lines):
                # A last line without its line feed, as a whole or in part.
                fails(self, InvalidText, read, joined(lines[:at]) + line, line=at + 1)
                fails(self, InvalidText, read, joined(lines[:at]) + line[:3], line=at + 1)
                fails(self, InvalidText, read, joined(lines[:at]) + " ", line=at + 1)
            fails(self, InvalidText, read, text + "\n", line=len(lines) + 1)
            fails(self, InvalidText, read, "\n" + text, line=1)

    def test_cut_off_behind_a_line(self):
        for read, text in ((read_plan, PLAN), (read_demands, DEMANDS)):
            lines = lines_of(text)
            for at in range(2, len(lines) + 1):
                read(joined(lines[:at]))
        # The outs of a part are looked at behind the last line alone.
        lines = lines_of(PART)
        for at in (2, 3, 4, 11, 12):
            read_part(joined(lines[:at]))
        for at in range(5, 11):
            fails(self, InvalidText, read_part, joined(lines[:at]), line=at + 1)
        fails(self, InvalidText, read_part, PART + "drop b y\n", line=14)

    def test_lines_too_many_or_exchanged(self):
        for read, text in ((read_plan, PLAN), (read_part, PART), (read_demands, DEMANDS)):
            lines = lines_of(text)
            for at in range(len(lines) + 1):
                for wrong in ("", " ", "x", "modulus 3", "hands a b", "own a", "Own a k", "own a k ", " own a k", "own  a k", "own a k\t",
                              "hold q", "must", "tell a", "send a a x", "wait"):
                    more = lines[:at] + [wrong] + lines[at:]
                    if (at, wrong) not in ((0, "modulus 3"), (1, "hands a b")):
                        fails(self, InvalidText, read, joined(more), line=at + 1)
            for at in range(2):
                fails(self, InvalidText, read, joined(lines[:at + 1] + lines[at:]), line=at + 2)
        fails(self, InvalidText, read_plan, joined([lines_of(PLAN)[1], lines_of(PLAN)[0]]), line=1)

    def test_head(self):
        for read in (read_plan, read_part, read_demands):
            for line in ("modulus", "modulus ", "modulus 4", "modulus 05", "modulus 5 ", " modulus 5", "modulus  5", "modulus x", "5",
                         "modulus 17", "Modulus 5", "modulus 5 5", "modulus -5", "modulus +5", "modulus 5.0"):
                fails(self, InvalidText, read, joined([line, "hands a"]), line=1)
            for line in ("hands", "hands ", "hands A", "hands a a", "hands a  b", "hands a ", "hand a", "hands a, b", "a b", "hands a b B",
                         "hands a b c d e f g", "hands abcdefghijklm"):
                fails(self, InvalidText, read, joined(["modulus 5", line]), line=2)
        for read in (read_part, read_demands):
            fails(self, InvalidText, read, "modulus 5\nhands b a\n", line=2)
            fails(self, InvalidText, read, "modulus 5\nhands a b c d e\n", line=2)
        self.assertEqual(read_plan("modulus 5\nhands f e d c b a\n").hands(), list("fedcba"))

    def test_steps_of_plans(self):
        begin = "modulus 5\nhands b a\nown a x\ndraw b r\n"
        for line in ("own a x", "own c k", "own a K", "own a k k", "draw a", "make a k", "make a k =", "make a k = ", "make a k = r",
                     "make a k = 1 x", "make a k = 0 x", "make a k = x + 0", "make a k = x+1", "make a k = 5 x", "make a k = x + x",
                     "make a k x", "make a k = x = x", "make a = x", "make a k j = x", "make a k  = x", "make a k =  x", "make a k = x ",
                     "make a r = x", "send a b r", "send a c x", "send a a x", "send a b x x", "send a x", "tell a r", "tell a x a",
                     "drop b x", "drop a x x", "want a x", "want a x = r", "want a r = x", "want b r = x + 7", "hold x", "in k : a"):
            fails(self, InvalidText, read_plan, begin + line + "\n", line=5)
            fails(self, InvalidText, read_plan, begin + line + "\nown a m\nwrong\n", line=5)
        fails(self, InvalidText, read_plan, begin + "tell a x\ntell a x\n", line=6)

    def test_doors(self):
        for read in (read_part, read_demands):
            for line in ("in k", "in k :", "in k : ", "in k : c", "in k : b a", "in k : a a", "in k: a", "in k :a", "in K : a", "in k : a ",
                         "in  k : a", "in : a", "in k k : a", "in k : a : b", "in c : a", "in a : a", "door k : a", "out c :", "out c : d"):
                fails(self, InvalidText, read, f"modulus 5\nhands a b\nin c : b\n{line}\n", line=4)
            for line in ("in k : a", "out c : a", "out e : a", "out d : b", "out f : b a"):
                fails(self, InvalidText, read, f"modulus 5\nhands a b\nin c : b\nout e : a\n{line}\n", line=5)
            many = [f"in x{at} : a" for at in range(10)]
            head = ["modulus 5", "hands a b"]
            read(joined(head + many))
            fails(self, InvalidText, read, joined(head + many + ["in y : a"]), line=13)
            fails(self, InvalidText, read, joined(head + many + ["out y : a"]), line=13)

    def test_steps_of_parts(self):
        begin = "modulus 5\nhands a b\nin x : a\nin z : a b\nout y : b\ndraw b y\n"
        read_part(begin)
        for line in ("own a k", "want a x = 0", "in zz : a", "out z : a", "drop a x", "drop b z", "draw a x", "draw a y", "make b k = x",
                     "send b a x", "hold y", "must a : y"):
            fails(self, InvalidText, read_part, begin + line + "\n", line=7)
        # y is held by a alone.
        fails(self, InvalidText, read_part, "modulus 5\nhands a b\nout y : b\ndraw a y\n", line=5)
        fails(self, InvalidText, read_part, "modulus 5\nhands a b\nout y : b\ndraw a y\nwrong\n", line=5)

    def test_lines_of_demands(self):
        begin = "modulus 5\nhands a b\nin x : a\nin z : a b\nout t : b\nout y : b\n"
        for line in ("hold", "hold ", "hold q", "hold 1", "hold x", "hold x + 4 z", "hold  y", "hold y ", "hold y + 4 x", "hold 5 y",
                     "must y", "must : q", "must a b y", "must a: y", "must a :y", "must  : y", "must a a : y", "must b a : y",
                     "must c : y", "must a : y : y", "must a : ", "must a :", "draw a r", "in zz : a", "out z : a", "Hold y"):
            fails(self, InvalidText, read_demands, begin + line + "\n", line=7)
        fails(self, InvalidText, read_demands, begin + "hold y\nhold y + 1\n", line=8)
        fails(self, InvalidText, read_demands, begin + "hold y\nhold x + y\n", line=8)
        fails(self, InvalidText, read_demands, begin + "hold y\nout z1 : a\n", line=8)
        fails(self, InvalidText, read_demands, begin + "must a : y\nhold y\n", line=8)
        fails(self, InvalidText, read_demands, begin + "must a : y\nout z1 : a\n", line=8)
        read_demands(begin + "hold y\nhold y\nmust : y\nmust : y\n")


if __name__ == "__main__":
    unittest.main()
