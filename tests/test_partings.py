"""Points [23], [24] and [25]: differences, may_stand, plans that hear and use, partings."""

import unittest
from random import Random

from quietsums.around import (difference, form_of, hearing, is_difference, is_parting, may_stand, parting, using)
from quietsums.doors import Doors
from quietsums.errors import InvalidGroup, InvalidSum, OtherDoors, UnknownName
from quietsums.gaining import both, either
from quietsums.ladders import Ladder
from quietsums.parts import Part
from quietsums.plans import Plan
from quietsums.runs import wants
from quietsums.spaces import Relations, Space
from quietsums.sums import Sum
from quietsums.watches import learned, learns
from tests.door_helpers import door_sums, passed_on, random_doors, random_ladder, random_part
from tests.helpers import NO_LISTS, NO_SUMS, Plain, fails, random_sum

X, Y = Sum.of(3, x=1), Sum.of(3, y=1)
NO_VALUES = (None, True, 0, "hear", "hold", b"hear", [], (), {}, ("hear",), ("hold",), Plain(), {"hear": 1})


def two_ladders():
    """Return the ladders in which y is, and is not, x for b; the empty group knows x - y in the first."""
    doors = Doors(3, ["a", "b"], {"x": ["a"]}, {"y": ["b"]})
    everything = Space(3, [X, Y])
    one = Ladder(doors, Relations(3, [X - Y]), {(): Space(3, [X - Y]), ("a",): everything, ("b",): everything, ("a", "b"): everything})
    other = Ladder(doors, Relations(3, []), {(): Space(3, []), ("a",): Space(3, [X]), ("b",): everything, ("a", "b"): everything})
    return one, other


def other_doors(doors):
    """Return tuples of doors that are not equal to some doors with x and y, and the name that tells."""
    hands = doors.hands()
    first, last = hands[0], hands[-1]
    held = {"x": doors.holders("x")}
    out = {"y": doors.holders("y")}
    yield Doors(5, hands, held, out), None
    yield Doors(doors.modulus, [*hands, "new"], held, out), None
    yield Doors(doors.modulus, [*hands[:-1], "new"], {}, {}), None
    yield Doors(doors.modulus, hands, {}, {}), "x"
    yield Doors(doors.modulus, hands, held, {}), "y"
    yield Doors(doors.modulus, hands, {**held, "w": [first]}, out), "w"
    yield Doors(doors.modulus, hands, held, {**out, "z": [last]}), "z"
    yield Doors(doors.modulus, hands, {**held, **out}, {}), "y"
    yield Doors(doors.modulus, hands, {name: [first] for name in "hgfe"}, {name: [first] for name in "dcba"}), "a"
    yield Doors(doors.modulus, hands, out, held), "x"
    if len(hands) > 1:
        yield Doors(doors.modulus, hands, {"x": hands}, out), "x"
        yield Doors(doors.modulus, hands, held, {"y": [first]}), "y"


def part_over(doors):
    """Return a part in which the outs are drawn and sent to their holders."""
    steps = []
    for name in doors.outs():
        first, *others = doors.holders(name)
        steps += [("draw", first, name)] + [("send", first, other, name) for other in others]
    return Part(doors, steps)


class Differences(unittest.TestCase):
    def test_ordinary(self):
        one, other = two_ladders()
        self.assertEqual(difference(one, other), ("hear", (), X - Y))
        self.assertEqual(difference(other=one, one=other), ("hear", (), X - Y))
        self.assertIs(type(difference(one, other)), tuple)
        plain, masked = passed_on()
        self.assertEqual(difference(form_of(plain), form_of(masked)), ("hold", X - Y))
        self.assertEqual(difference(form_of(masked), form_of(plain)), ("hold", X - Y))

    def test_the_sum_of_the_first_ladder_comes_first(self):
        doors = Doors(3, ["a"], {"x": ["a"], "w": ["a"]}, {"y": ["a"]})
        spaces = [Space(3, [Sum.of(3, w=1)]), Space(3, [Sum.of(3, x=1), Y])]
        full = Space(3, [Sum.of(3, w=1), X, Y])
        one, other = [Ladder(doors, Relations(3, []), {(): space, ("a",): full}) for space in spaces]
        self.assertEqual(difference(one, other), ("hear", (), Sum.of(3, w=1)))
        self.assertEqual(difference(other, one), ("hear", (), X))

    def test_the_others_sum_if_the_one_has_none(self):
        one, other = two_ladders()
        self.assertEqual(difference(other, one), ("hear", (), X - Y))
        same = Ladder(one.doors, Relations(3, []), dict(one.walk()))
        self.assertEqual(difference(same, one), ("hold", X - Y))
        constant = Ladder(one.doors, Relations(3, [X - Y + Sum(3, {}, 2)]), dict(one.walk()))
        self.assertEqual(difference(constant, one), ("hold", Sum(3, {"x": 1, "y": 2}, 2)))
        self.assertEqual(difference(one, constant), ("hold", X - Y))

    def test_by_the_words(self):
        kinds = {}
        for seed in range(150):
            doors = random_doors(Random(seed))
            one, other = random_ladder(seed, doors), random_ladder(seed + 1000, doors)
            found = difference(one, other)
            kinds.setdefault(found and found[0], []).append(seed)
            self.assertEqual(found, self.by_the_words(one, other))
            self.assertEqual(found is None, one == other)
            if found is not None:
                self.assertIs(is_difference(one, other, found), True)
                self.assertIs(is_difference(other, one, found), True)
        self.assertLessEqual({None, "hear"}, set(kinds))

    def by_the_words(self, one, other):
        for group in one.doors.groups():
            for space, more in ((one, other), (other, one)):
                for total in space.space(group).basis():
                    if total not in more.space(group):
                        return "hear", group, total
        for space, more in ((one, other), (other, one)):
            for total in space.relations.basis():
                if total not in more.relations:
                    return "hold", total
        return None

    def test_equal_ladders(self):
        for one in two_ladders():
            self.assertIsNone(difference(one, one))
            for value in (("hear", (), X - Y), ("hear", ("a",), Y), ("hold", X - Y)):
                self.assertIs(is_difference(one, one, value), False)

    def test_is_difference_of_any_value(self):
        one, other = two_ladders()
        good = [("hear", (), X - Y), ("hear", (), (X - Y) * 2 + Sum(3, {}, 1)), ("hear", ("a",), Y), ("hold", X - Y),
                ("hear", ("a",), X + Y), ("hold", (X - Y) * 2)]
        for value in good:
            self.assertIs(is_difference(value=value, other=other, one=one), True, value)
            self.assertIs(is_difference(one, other, list(value)), False)
            self.assertIs(is_difference(one, other, (*value, 1)), False)
        wrong = [*NO_VALUES, ("hear", [], X - Y), ("hear", ["a"], Y), ("hear", ("b",), Y), ("hear", ("a",), X), ("hear", (), X),
                 ("hear", ("b", "a"), Y), ("hear", ("c",), Y), ("hear", ("a", "a"), Y), ("hear", "a", Y), ("hear", None, Y),
                 ("hold", X), ("hold", X - Y + Sum(3, {}, 1)), ("hold", Sum(3, {})), ("hear", (), Sum(3, {})), ("hold", ()),
                 ("hold", X - Y, ()), ("hear", X - Y), ("hear", (), Sum(5, {"x": 1, "y": 4})), ("hold", (), X - Y),
                 (None, (), X - Y), (["hear"], (), X - Y), (Plain(), X - Y), ("hear", (["a"],), Y), ("hear", Plain(), Y)]
        wrong += [("hear", (), value) for value in NO_SUMS] + [("hold", value) for value in NO_SUMS]
        for value in wrong:
            self.assertIs(is_difference(one, other, value), False, value)

    def test_other_doors(self):
        one, _ = two_ladders()
        for doors, name in other_doors(one.doors):
            other = form_of(part_over(doors))
            fails(self, OtherDoors, difference, one, other, name=name)
            fails(self, OtherDoors, is_difference, other, one, None, name=name)
            fails(self, OtherDoors, may_stand, one, other, None, None, name=name)
            fails(self, OtherDoors, either, one, other, name=name)
            fails(self, OtherDoors, both, one, other, name=name)


class MayStand(unittest.TestCase):
    def test_ordinary(self):
        one, other = two_ladders()
        groups = one.doors.groups()
        self.assertIs(may_stand(one, other, [], groups), True)
        self.assertIs(may_stand(one, other, [["b"], ("b", "a")], []), True)
        self.assertIs(may_stand(good=[], bad=[["a"]], other=other, one=one), False)
        self.assertIs(may_stand(one, other, [("b",), ()], ()), False)
        self.assertIs(may_stand(one, one, groups, groups), True)

    def test_relations(self):
        one, other = two_ladders()
        self.assertIs(may_stand(other, one, [], []), False)
        same = Ladder(one.doors, Relations(3, []), dict(one.walk()))
        self.assertIs(may_stand(same, one, [], []), False)
        self.assertIs(may_stand(one, same, one.doors.groups(), one.doors.groups()), True)

    def test_good_groups(self):
        one, other = two_ladders()
        bare = Ladder(one.doors, Relations(3, []), dict(other.walk()))
        more = Ladder(one.doors, Relations(3, []), dict(one.walk()))
        self.assertIs(may_stand(bare, more, [], [["b"]]), True)
        self.assertIs(may_stand(bare, more, [], [["b"], ["a"]]), False)
        self.assertIs(may_stand(bare, more, [[], ["a"], ["b"]], [["a", "b"]]), True)
        self.assertIs(may_stand(more, bare, [["b"]], [[], ["a"]]), True)

    def test_by_the_words(self):
        answers = []
        for seed in range(300):
            chance = Random(seed)
            doors = random_doors(chance, 2, 3, 2)
            one, other = random_ladder(seed, doors), random_ladder(seed + 1000, doors)
            bad, good = [chance.sample(doors.groups(), chance.randrange(2)) for _ in range(2)]
            sums = door_sums(doors, (0, 1))
            wanted = all(total in other.space(group) for group in bad for total in sums if total in one.space(group))
            wanted = wanted and all(total in one.space(group) for group in good for total in sums if total in other.space(group))
            wanted = wanted and all(total in one.relations for total in sums if total in other.relations)
            self.assertIs(may_stand(one, other, bad, good), wanted)
            answers.append(wanted)
        self.assertGreater(min(answers.count(True), answers.count(False)), 50)

    def test_wrong(self):
        one, other = two_ladders()
        for value in NO_LISTS:
            fails(self, InvalidGroup, may_stand, one, other, value, None, value=value)
            fails(self, InvalidGroup, may_stand, one, other, [["a"]], value, value=value)
        for value in (*NO_LISTS, ["c"], ["a", "a"], [None], [["a"]]):
            fails(self, InvalidGroup, may_stand, one, other, [["a"], value, None], None, value=value)
            fails(self, InvalidGroup, may_stand, one, other, [["a"]], [[], value, None], value=value)
        fails(self, InvalidGroup, may_stand, one, other, ("a",), [], value="a")


class Hearing(unittest.TestCase):
    def test_step_by_step(self):
        doors = Doors(3, ["c", "b", "a"], {"x": ["c", "a"], "w": ["b"]}, {"y": ["b", "c"], "z": ["a"]})
        inside = [("draw", "a", "z"), ("send", "a", "b", "z"), ("make", "b", "y", Sum.of(3, z=1, w=1)), ("send", "b", "c", "y")]
        target = Sum(3, {"y": 1, "x": 2}, 1)
        ahead = [("own", "b", "w"), ("send", "b", "outer", "w"), ("own", "a", "x"), ("send", "a", "c", "x"),
                 ("send", "a", "outer", "x")]
        sent = [("send", "b", "outer", "y"), ("send", "a", "outer", "z")]
        behind = [*sent, ("own", "outer", "secret"), ("make", "outer", "total", Sum(3, {"secret": 1, "y": 1, "x": 2}, 1)),
                  ("tell", "outer", "total")]
        plan, watch, secret = hearing(Part(doors, inside), ["c", "a"], target)
        hands = ["a", "b", "c", "outer"]
        self.assertEqual(plan, Plan(3, hands, [*ahead, *inside, ("drop", "b", "z"), *behind]))
        self.assertEqual([watch, secret], [[("a", 5, 9), ("c", 5, 9)], Sum.of(3, secret=1)])
        found = using(Part(doors, inside), target)
        used = [*sent, ("make", "outer", "total", target), ("want", "outer", "total", Sum(3, {}))]
        self.assertEqual(found, (Plan(3, hands, [*ahead, *inside, ("drop", "b", "z"), *used]), 13))

    def test_names_that_are_taken(self):
        doors = Doors(3, ["outer", "outer1"], {"secret": ["outer"]}, {"total": ["outer1"]})
        part = Part(doors, [("draw", "outer", "secret1"), ("draw", "outer1", "total"), ("draw", "outer", "total2")])
        plan, watch, secret = hearing(target=Sum.of(3, secret=1), group=["outer1"], part=part)
        self.assertEqual([plan.hands(), secret], [["outer", "outer1", "outer2"], Sum.of(3, secret2=1)])
        self.assertEqual(plan.steps()[-1], ("tell", "outer2", "total1"))
        self.assertEqual(watch, [("outer1", 2, 5)])
        used, position = using(target=Sum.of(3, secret=1), part=part)
        self.assertEqual(used.steps()[position], ("want", "outer2", "total1", Sum(3, {})))
        free = Part(Doors(3, ["total"], {"outer": ["total"]}, {}), [])
        self.assertEqual(hearing(free, [], Sum(3, {}))[0].hands(), ["total", "outer"])
        self.assertEqual(hearing(free, [], Sum(3, {}))[2], Sum.of(3, secret=1))

    def test_secret_is_learned_if_the_sum_is_known_and_wants_are_true_if_it_holds(self):
        known, holding = set(), set()
        for seed in range(120):
            part, chance = random_part(seed), Random(seed)
            form = form_of(part)
            for target in [random_sum(chance, part.doors.modulus, part.doors.names()) for _ in range(3)] + form.relations.basis():
                for group in part.doors.groups():
                    plan, watch, secret = hearing(part, group, target)
                    self.assertIs(learns(plan, watch, secret), target in form.space(group))
                    known.add(learns(plan, watch, secret))
                plan, position = using(part, target)
                self.assertEqual(dict(wants(plan)), {position: target in form.relations})
                holding.add(target in form.relations)
        self.assertEqual([known, holding], [{True, False}, {True, False}])

    def test_edges(self):
        plan, watch, secret = hearing(Part(Doors(3, ["a"], {}, {}), []), [], Sum(3, {}, 2))
        self.assertEqual([plan.steps(), watch, learns(plan, watch, secret)],
                         [[("own", "outer", "secret"), ("make", "outer", "total", Sum(3, {"secret": 1}, 2)),
                           ("tell", "outer", "total")], [], True])
        plan, position = using(Part(Doors(3, ["a"], {}, {}), []), Sum(3, {}))
        self.assertEqual([position, wants(plan)], [1, [(1, True)]])

    def test_wrong(self):
        plain, _ = passed_on()
        for value in (*NO_LISTS, ["b"], ["a", "a"], ["outer"], [None]):
            fails(self, InvalidGroup, hearing, plain, value, None, value=value)
        for call in (lambda target: hearing(plain, [], target), lambda target: using(plain, target)):
            for value in (*NO_SUMS, Sum(5, {})):
                fails(self, InvalidSum, call, value, value=value)
            fails(self, UnknownName, call, Sum.of(3, z=1, secret=1, x=1), name="secret")


class Partings(unittest.TestCase):
    def test_example(self):
        plain, masked = passed_on()
        ahead = [("own", "a", "x"), ("send", "a", "outer", "x")]
        behind = [("send", "a", "outer", "y"), ("make", "outer", "total", X - Y), ("want", "outer", "total", Sum(3, {}))]
        wanted = ("hold", ["a", "outer"], ahead, behind)
        for one, other in ((plain, masked), (masked, plain)):
            self.assertEqual(parting(one, other), wanted)
            self.assertIs(is_parting(one, other, wanted), True)
        self.assertIs(type(parting(other=plain, part=masked)), tuple)
        self.assertIsNone(parting(plain, plain))
        self.assertIs(is_parting(plain, plain, wanted), False)

    def test_hear(self):
        doors = Doors(3, ["b", "a"], {"x": ["a"]}, {"y": ["b"]})
        sent = Part(doors, [("send", "a", "b", "x"), ("make", "b", "y", X)])
        drawn = Part(doors, [("draw", "b", "y"), ("draw", "b", "secret"), ("draw", "a", "total")])
        found = parting(sent, drawn)
        ahead = [("own", "a", "x"), ("send", "a", "outer", "x")]
        behind = [("send", "b", "outer", "y"), ("own", "outer", "secret1"),
                  ("make", "outer", "total1", Sum.of(3, secret1=1, x=1, y=2)), ("tell", "outer", "total1")]
        self.assertEqual(found, ("hear", ["a", "b", "outer"], ahead, behind, (), Sum.of(3, secret1=1)))
        self.assertEqual(parting(drawn, sent), found)
        self.assertIs(is_parting(sent, drawn, found), True)

    def test_exactly_if_forms_differ(self):
        kinds = []
        for seed in range(250):
            doors = random_doors(Random(seed), 2, 3, 2)
            one, other = random_part(seed, doors), random_part(seed + 1000, doors, mark="q")
            found = parting(one, other)
            self.assertEqual(found is None, form_of(one) == form_of(other))
            kinds.append(found and found[0])
            if found is not None:
                self.assertIs(is_parting(one, other, found), True)
                self.assertIs(is_parting(other, one, found), True)
                self.assertIs(is_parting(one, one, found), False)
        self.assertGreater(kinds.count("hear"), 20)
        self.assertGreater(kinds.count(None), 20)

    def test_forms_that_differ_in_relations_only(self):
        found = 0
        for seed in range(60):
            chance = Random(seed)
            doors = random_doors(chance, 2, 4, 2)
            steps = random_part(seed, doors, 0).steps()
            one = Part(doors, steps)
            # The last drawn sum is told. So nobody learns less, but an out is masked no longer by 0.
            outs = [at for at, step in enumerate(steps) if step[0] == "make" and step[2] in doors.outs()]
            if not outs:
                continue
            at = outs[0]
            hand, name, total = steps[at][1:]
            masked = [("draw", hand, "m"), ("tell", hand, "m"), ("make", hand, name, total + Sum.of(2, m=1))]
            other = Part(doors, [*steps[:at], *masked, *steps[at + 1:]])
            value = parting(one, other)
            self.assertEqual(value[0], "hold")
            self.assertEqual(difference(form_of(one), form_of(other)), ("hold", value[3][-2][3]))
            self.assertIs(is_parting(one, other, value), True)
            found += 1
        self.assertGreater(found, 20)

    def test_equal_forms_are_alike_in_random_plans(self):
        for seed in range(60):
            one = random_part(seed)
            hand = one.doors.hands()[0]
            more = [("draw", hand, "more"), ("make", hand, "twice", Sum.of(one.doors.modulus, more=1))]
            other = Part(one.doors, [*more, *one.steps(), ("drop", hand, "twice")])
            self.assertIsNone(parting(one, other))
            self.check_alike(one, other, Random(seed))

    def check_alike(self, one, other, chance):
        """Check that the same watches around both learn the same, and that the same wants are true."""
        hands = [*one.doors.hands(), "e"]
        ahead = [("own", "e", "p"), ("draw", "e", "m")]
        for name in one.doors.ins():
            first, *others = one.doors.holders(name)
            kind = chance.choice((("own", first, name), ("draw", first, name)))
            ahead += [kind] + [("send", first, hand, name) for hand in others + ["e"] * chance.randrange(2)]
        behind = [("send", one.doors.holders(name)[0], "e", name) for name in one.doors.outs()]
        held = sorted({"p", "m", *one.doors.outs()})
        behind += [("make", "e", "q", random_sum(chance, one.doors.modulus, held)), ("tell", "e", "q"),
                   ("want", "e", "q", Sum.of(one.doors.modulus, p=1))]
        plans = [part.placed(hands, ahead, behind) for part in (one, other)]
        self.assertEqual([true for _, true in wants(plans[0])], [true for _, true in wants(plans[1])])
        moments = [part.moments(hands, ahead) for part in (one, other)]
        for group in one.doors.groups():
            spaces = []
            for part, plan, (before, last, after) in zip((one, other), plans, moments):
                watch = [(hand, before, after) for hand in group] + [("e", 0, before)] * (len(group) > 1)
                spaces.append(learned(plan, watch + [(hands[0], after, len(plan))]))
            self.assertEqual(spaces[0], spaces[1])

    def test_is_parting_with_other_plans(self):
        plain, masked = passed_on()
        hands, ahead = ("b", "a"), (("draw", "b", "q"), ("own", "a", "x"))
        self.assertIs(is_parting(plain, masked, ("hold", hands, ahead, (("want", "a", "y", X),))), True)
        self.assertIs(is_parting(value=("hold", ["a"], [("own", "a", "x")], [("want", "a", "x", X), ("want", "a", "y", X)]),
                                 other=masked, part=plain), True)
        self.assertIs(is_parting(plain, masked, ("hold", hands, ahead, (("want", "a", "x", X),))), False)
        self.assertIs(is_parting(plain, masked, ("hold", hands, (*ahead, ("want", "a", "x", X)), ())), False)
        doors = Doors(3, ["b", "a"], {"x": ["a"]}, {})
        silent, telling = Part(doors, []), Part(doors, [("tell", "a", "x")])
        sent = Part(doors, [("send", "a", "b", "x")])
        own = [("own", "a", "x"), ("own", "b", "p")]
        for value in (("hear", ["a", "b"], own, [], [], X), ("hear", ("b", "a"), tuple(own), (), ("b",), X * 2),
                      ("hear", ["a", "b"], own, [("own", "a", "q")], ["b"], X + Sum.of(3, p=1))):
            self.assertIs(is_parting(silent, telling, value), True)
            self.assertIs(is_parting(silent, sent, value), value[4] != [])
        for value in (("hear", ["a", "b"], own, [], ["a"], X), ("hear", ["a", "b"], own, [], [], Sum.of(3, x=1, p=1)),
                      ("hear", ["a", "b"], own, [], ["b", "a"], X), ("hear", ["a", "b"], own, [], [], Sum(3, {}, 1)),
                      ("hear", ["a", "b"], own, [("tell", "a", "x")], [], X)):
            self.assertIs(is_parting(silent, telling, value), False)

    def test_the_seats_end_with_the_last_step_of_each_part(self):
        doors = Doors(3, ["b", "a"], {"x": ["a"]}, {})
        short, long = Part(doors, []), Part(doors, [("draw", "a", "r"), ("draw", "a", "s")])
        behind = [("send", "a", "b", "x"), ("drop", "b", "x"), ("draw", "b", "q")]
        value = ("hear", ["a", "b"], [("own", "a", "x")], behind, ["b"], X)
        self.assertIs(is_parting(short, long, value), False)
        self.assertIs(is_parting(long, short, value), False)

    def test_wants_are_compared_by_their_place(self):
        plain, masked = passed_on()
        own = [("own", "a", "x")]
        crossed = [("want", "a", "y", X), ("want", "a", "x", X)]
        self.assertIs(is_parting(plain, masked, ("hold", ["a"], own, crossed)), True)
        both_false = [("want", "a", "y", X + Sum(3, {}, 1))]
        self.assertIs(is_parting(plain, masked, ("hold", ["a"], own, both_false)), False)

    def test_is_parting_of_any_value(self):
        plain, masked = passed_on()
        good = parting(plain, masked)
        _, hands, ahead, behind = good
        wrong = [*NO_VALUES, list(good), good[1:], (*good, ()), ("hear", *good[1:]), ("Hold", *good[1:]), (None, *good[1:]),
                 ("hold", None, ahead, behind), ("hold", hands, None, behind), ("hold", hands, ahead, None),
                 ("hold", ["outer"], ahead, behind), ("hold", ["a", "a"], ahead, behind), ("hold", hands, [], behind),
                 ("hold", hands, ahead[:1], behind), ("hold", hands, ahead, behind[:2]), ("hold", hands, ahead, [*behind, None]),
                 ("hold", hands, [*ahead, ("own", "outer", "r")], behind), ("hold", hands, [*ahead, ("own", "outer", "y")], behind),
                 ("hold", hands, ahead, [*behind, ("draw", "a", "r")]), ("hold", hands, ahead, []),
                 ("hold", hands, [*ahead, Plain()], behind), ("hold", Plain(), Plain(), Plain())]
        for value in wrong:
            self.assertIs(is_parting(plain, masked, value), False, value)
        doors = Doors(3, ["b", "a"], {"x": ["a"]}, {})
        silent, telling = Part(doors, []), Part(doors, [("tell", "a", "x"), ("draw", "a", "r")])
        heard = ("hear", ["a", "b"], [("own", "a", "x"), ("draw", "b", "q")], [], ["b"], X)
        self.assertIs(is_parting(silent, telling, heard), True)
        for value in (list(heard), heard[1:], (*heard, ()), ("hold", *heard[1:]), ("Hear", *heard[1:]), (None, *heard[1:])):
            self.assertIs(is_parting(silent, telling, value), False, value)
        for at, values in ((1, (*NO_LISTS, ["a"])), (2, (*NO_LISTS, [], [("own", "b", "x")])), (3, (*NO_LISTS, [None])),
                           (4, (*NO_LISTS, ["c"], ["b", "b"], [None], [["b"]])),
                           (5, (*NO_SUMS, Sum.of(5, x=1), Sum.of(3, q=1), Sum.of(3, x=1, r=1), Sum.of(3, x=1, z=1)))):
            for value in values:
                changed = (*heard[:at], value, *heard[at + 1:])
                self.assertIs(is_parting(silent, telling, changed), False, changed)
                self.assertIs(is_parting(telling, silent, changed), False, changed)

    def test_parts_that_cannot_be_placed_so(self):
        doors = Doors(3, ["a"], {"x": ["a"]}, {"y": ["a"]})
        one = Part(doors, [("make", "a", "y", X)])
        other = Part(doors, [("draw", "a", "p"), ("make", "a", "y", X + Sum.of(3, p=1))])
        value = ("hold", ["a", "b"], [("own", "a", "x"), ("own", "b", "p")], [("want", "a", "y", X)])
        self.assertIs(is_parting(one, other, value), False)
        self.assertIs(is_parting(other, one, value), False)
        self.assertIs(is_parting(one, other, ("hold", ["a", "b"], value[2][:1], value[3])), True)
        value = ("hear", *value[1:3], [("send", "a", "b", "y")], ["a"], X)
        self.assertIs(is_parting(one, other, value), False)
        self.assertIs(is_parting(other, one, value), False)

    def test_new_lists_each_time(self):
        plain, masked = passed_on()
        found = parting(plain, masked)
        for at in (1, 2, 3):
            found[at].clear()
        self.assertIs(is_parting(plain, masked, parting(plain, masked)), True)
        plan, watch, _ = hearing(plain, ["a"], X)
        watch.clear()
        self.assertEqual(len(hearing(plain, ["a"], X)[1]), 1)

    def test_other_doors(self):
        part = part_over(Doors(3, ["a", "b"], {"x": ["a"]}, {"y": ["b"]}))
        for doors, name in other_doors(part.doors):
            other = part_over(doors)
            fails(self, OtherDoors, parting, part, other, name=name)
            fails(self, OtherDoors, is_parting, other, part, None, name=name)


if __name__ == "__main__":
    unittest.main()
