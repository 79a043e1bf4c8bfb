"""Point [17], and the functions of trimming.py."""

import unittest
from random import Random

from quietsums.books import is_quiet
from quietsums.errors import InvalidBook, InvalidStep, NotQuiet
from quietsums.groups import listening
from quietsums.plans import Plan
from quietsums.runs import wants
from quietsums.sums import Sum
from quietsums.trimming import lean, needless_draws, needless_steps, trimmed
from quietsums.watches import learned
from tests.helpers import NO_LISTS, example_plan, fails, holdings, random_plan, random_sum

X = Sum.of(5, x=1)
OWN = ("own", "a", "x")


def plan_of(*steps):
    return Plan(5, ["a", "b", "c"], list(steps))


def removed(plan, position):
    """Return the steps without one of them and its "drop" steps if the rest is a plan, by the words, or None."""
    steps = plan.steps()
    if steps[position][0] not in ("draw", "make", "send", "tell"):
        return None
    name = steps[position][3] if steps[position][0] == "send" else steps[position][2]
    kept = steps[:position]
    for step in steps[position + 1:]:
        gone = step[0] == "drop" and step[2] == name and name not in holdings(plan.hands(), kept)[-1][step[1]]
        if not gone:
            try:
                Plan(plan.modulus, plan.hands(), [*kept, step])
            except InvalidStep:
                return None
            kept.append(step)
    return kept


def trimmed_by_words(plan):
    while True:
        found = [position for position in range(len(plan)) if removed(plan, position) is not None]
        if not found:
            return plan
        plan = Plan(plan.modulus, plan.hands(), removed(plan, found[-1]))


def without_draw(plan, name):
    """Return the plan in which a drawn name is made as 0."""
    zero = Sum(plan.modulus, {})
    steps = [("make", step[1], name, zero) if step[0] == "draw" and step[2] == name else step for step in plan.steps()]
    return Plan(plan.modulus, plan.hands(), steps)


def draws_by_words(plan, book):
    found = []
    for name in plan.drawn_names():
        other = without_draw(plan, name)
        stay = all(after for (_, before), (_, after) in zip(wants(plan), wants(other)) if before)
        if is_quiet(other, book) and stay:
            found.append(name)
    return found


def lean_by_words(plan, book):
    plan = trimmed_by_words(plan)
    while draws_by_words(plan, book):
        plan = trimmed_by_words(without_draw(plan, draws_by_words(plan, book)[0]))
    return plan


def quiet_book(plan, chance):
    """Return a book by which the plan is quiet."""
    book = []
    for _ in range(chance.randrange(4)):
        group = chance.sample(plan.hands(), chance.randrange(len(plan.hands()) + 1))
        sums = learned(plan, listening(plan, group)).basis()
        if chance.random() < 0.3:
            sums.append(random_sum(chance, plan.modulus, plan.own_names()))
        book.append((group, sums))
    return book


def with_wants(plan, chance):
    """Return the plan in which some held names are wanted."""
    steps = []
    for hand in plan.hands():
        for name in plan.held(hand, len(plan)):
            if chance.random() < 0.3:
                meaning = plan.meaning(name)
                private = all(other in plan.own_names() for other in meaning.names())
                target = meaning if private else random_sum(chance, plan.modulus, plan.own_names())
                steps.append(("want", hand, name, target))
    return plan.extended(*steps)


class NeedlessSteps(unittest.TestCase):
    def test_without_steps(self):
        self.assertEqual([needless_steps(plan_of()), trimmed(plan_of())], [[], plan_of()])

    def test_own_and_want_and_drop_are_never_needless(self):
        plan = plan_of(OWN, ("want", "a", "x", X), ("drop", "a", "x"))
        self.assertEqual([needless_steps(plan), trimmed(plan=plan)], [[], plan])

    def test_each_kind(self):
        self.assertEqual(needless_steps(plan_of(("draw", "a", "r"))), [0])
        self.assertEqual(needless_steps(plan_of(("make", "a", "m", Sum(5, {}, 2)))), [0])
        self.assertEqual(needless_steps(plan_of(OWN, ("send", "a", "b", "x"))), [1])
        self.assertEqual(needless_steps(plan=plan_of(OWN, ("tell", "a", "x"))), [1])

    def test_who_needs_a_step(self):
        draw = ("draw", "a", "r")
        for later in (("send", "a", "b", "r"), ("tell", "a", "r"), ("make", "a", "m", Sum.of(5, r=1)),
                      ("want", "a", "r", Sum(5, {}))):
            self.assertNotIn(0, needless_steps(plan_of(draw, later)))
        sent = (OWN, ("send", "a", "b", "x"))
        for later in (("send", "b", "c", "x"), ("tell", "b", "x"), ("make", "b", "m", Sum.of(5, x=1)),
                      ("want", "b", "x", X)):
            self.assertNotIn(1, needless_steps(plan_of(*sent, later)))
        for later in (("send", "a", "c", "x"), ("tell", "a", "x"), ("make", "a", "m", Sum.of(5, x=1)),
                      ("want", "a", "x", X), ("draw", "b", "y")):
            self.assertIn(1, needless_steps(plan_of(*sent, later)))
        told = (OWN, ("tell", "a", "x"))
        self.assertEqual(needless_steps(plan_of(*told, ("want", "c", "x", X))), [])
        self.assertEqual(needless_steps(plan_of(*told, ("want", "a", "x", X))), [1])

    def test_a_sum_needs_only_names_with_weights(self):
        plan = plan_of(("draw", "a", "r"), ("make", "a", "m", Sum(5, {"r": 0}, 1)), ("want", "a", "m", Sum(5, {}, 1)))
        self.assertEqual(needless_steps(plan), [0])

    def test_sent_twice(self):
        plan = plan_of(OWN, ("send", "a", "b", "x"), ("send", "a", "b", "x"), ("want", "b", "x", X))
        self.assertEqual(needless_steps(plan), [1, 2])
        self.assertEqual(trimmed(plan), plan_of(OWN, ("send", "a", "b", "x"), ("want", "b", "x", X)))

    def test_a_drop_goes_with_its_step(self):
        plan = plan_of(OWN, ("send", "a", "b", "x"), ("drop", "b", "x"), ("draw", "b", "r"), ("drop", "b", "r"))
        self.assertEqual(needless_steps(plan), [1, 3])
        self.assertEqual(trimmed(plan), plan_of(OWN))
        both = plan_of(OWN, ("tell", "a", "x"), ("drop", "c", "x"), ("drop", "b", "x"), ("drop", "a", "x"))
        self.assertEqual(needless_steps(both), [1])
        self.assertEqual(trimmed(both), plan_of(OWN, ("drop", "a", "x")))

    def test_a_drop_stays_if_the_name_is_held_still(self):
        plan = plan_of(OWN, ("send", "a", "b", "x"), ("send", "a", "c", "x"), ("send", "c", "b", "x"), ("drop", "b", "x"))
        self.assertEqual(needless_steps(plan), [1, 3])
        steps = removed(plan, 3)
        self.assertEqual(steps, [OWN, ("send", "a", "b", "x"), ("send", "a", "c", "x"), ("drop", "b", "x")])
        self.assertEqual(trimmed(plan), plan_of(OWN))
        again = plan_of(OWN, ("send", "a", "b", "x"), ("drop", "b", "x"), ("send", "a", "b", "x"), ("want", "b", "x", X))
        self.assertEqual(needless_steps(again), [1])
        self.assertEqual(trimmed(again), plan_of(OWN, ("send", "a", "b", "x"), ("want", "b", "x", X)))

    def test_needless_only_when_another_one_is_gone(self):
        plan = plan_of(("draw", "a", "r"), ("send", "a", "b", "r"), ("make", "b", "m", Sum.of(5, r=1)), ("tell", "b", "m"))
        self.assertEqual(needless_steps(plan), [3])
        self.assertEqual(trimmed(plan), plan_of())

    def test_the_last_one_goes_first(self):
        plan = plan_of(OWN, ("send", "a", "b", "x"), ("tell", "a", "x"), ("want", "b", "x", X))
        self.assertEqual(needless_steps(plan), [1, 2])
        self.assertEqual(trimmed(plan), plan_of(OWN, ("send", "a", "b", "x"), ("want", "b", "x", X)))

    def test_example(self):
        plan = example_plan()
        self.assertEqual([needless_steps(plan), trimmed(plan)], [[3], Plan(5, ["a", "b"], [OWN])])
        wanted = plan.extended(("want", "b", "s", X))
        self.assertEqual([needless_steps(wanted), trimmed(wanted)], [[], wanted])

    def test_hands_stay_in_their_sequence(self):
        self.assertEqual(trimmed(Plan(2, ["b", "a"], [("draw", "a", "r")])), Plan(2, ["b", "a"], []))

    def test_by_the_words(self):
        changed = 0
        for seed in range(60):
            plan = with_wants(random_plan(seed, 6, 20), Random(seed))
            found = [position for position in range(len(plan)) if removed(plan, position) is not None]
            self.assertEqual(needless_steps(plan), found)
            thin = trimmed(plan)
            self.assertEqual(thin, trimmed_by_words(plan))
            self.assertEqual(needless_steps(thin), [])
            changed += len(thin) < len(plan) - 1
        self.assertGreater(changed, 30)

    def test_wants_stay_and_no_more_is_learned(self):
        for seed in range(80):
            plan = with_wants(random_plan(seed, 6, 20), Random(seed))
            book = quiet_book(plan, Random(seed))
            thin = trimmed(plan)
            self.assertTrue(is_quiet(thin, book))
            for (position, is_true), (place, stays_true) in zip(wants(plan), wants(thin), strict=True):
                self.assertEqual([plan.steps()[position], is_true], [thin.steps()[place], stays_true])
                name = plan.steps()[position][2]
                self.assertEqual(plan.meaning(name), thin.meaning(name))

    def test_new_lists_each_time(self):
        plan = example_plan()
        needless_steps(plan).clear()
        self.assertEqual([needless_steps(plan), plan], [[3], example_plan()])


class NeedlessDraws(unittest.TestCase):
    def test_example(self):
        plan = example_plan().extended(("want", "b", "s", X))
        self.assertEqual(needless_draws(plan, [(["b"], [])]), [])
        self.assertEqual(needless_draws(plan, [(["b"], [X])]), ["r"])
        self.assertEqual(needless_draws(book=[], plan=plan), ["r"])
        self.assertEqual(needless_draws(plan, [([], []), (["a"], [X])]), ["r"])
        self.assertEqual(lean(plan, [(["b"], [])]), plan)
        self.assertEqual(lean(book=[], plan=plan), without_draw(plan, "r"))

    def test_the_plan_as_it_is(self):
        plan = Plan(5, ["a", "b"], [("draw", "a", "s"), OWN, ("draw", "b", "r")])
        self.assertEqual(needless_draws(plan, []), ["s", "r"])
        self.assertEqual(lean(plan, []), Plan(5, ["a", "b"], [OWN]))

    def test_two_masks_of_which_one_is_enough(self):
        total = Sum.of(5, x=1, r=1, s=1)
        steps = [OWN, ("draw", "a", "s"), ("draw", "a", "r"), ("make", "a", "m", total), ("send", "a", "b", "m"),
                 ("want", "b", "m", X)]
        plan = plan_of(*steps)
        self.assertEqual(needless_draws(plan, [(["b"], [])]), ["s", "r"])
        self.assertEqual(lean(plan, [(["b"], [])]), without_draw(plan, "s"))
        self.assertEqual(lean(plan, ((("b",), (X,)),)), without_draw(without_draw(plan, "s"), "r"))

    def test_each_group_counts(self):
        steps = [OWN, ("draw", "a", "r"), ("draw", "a", "s"), ("make", "a", "m", Sum.of(5, x=1, r=1)),
                 ("make", "a", "n", Sum.of(5, x=1, s=1)), ("send", "a", "b", "m"), ("send", "a", "c", "n"),
                 ("want", "b", "m", X), ("want", "c", "n", X)]
        plan = plan_of(*steps)
        self.assertEqual(needless_draws(plan, [(["b"], [])]), ["s"])
        self.assertEqual(needless_draws(plan, [(["b"], [X]), (["c"], [])]), ["r"])
        self.assertEqual(needless_draws(plan, [(["b", "c"], [])]), [])
        self.assertEqual(lean(plan, [(["c"], []), (["b"], [X])]), without_draw(plan, "r"))

    def test_by_the_words(self):
        for seed in range(50):
            chance = Random(seed)
            plan = with_wants(random_plan(seed, 6, 16), chance)
            book = quiet_book(plan, chance)
            found = draws_by_words(plan, book)
            self.assertEqual(needless_draws(plan, book), found)
            thin = lean(plan, book)
            self.assertEqual(thin, lean_by_words(plan, book))
            self.assertTrue(is_quiet(thin, book))
            self.assertEqual(needless_draws(thin, book), [])
            self.assertTrue(all(after or not before for (_, before), (_, after) in zip(wants(plan), wants(thin), strict=True)))

    def test_masked_sums_by_the_words(self):
        kinds = set()
        for seed in range(80):
            plan = masked(Random(seed))
            chance = Random(seed)
            book = quiet_book(plan, chance) + [(["b"], [random_sum(chance, 3, ["x", "y"]) for _ in range(2)])]
            if is_quiet(plan, book):
                self.assertEqual(needless_draws(plan, book), draws_by_words(plan, book))
                self.assertEqual(lean(plan, book), lean_by_words(plan, book))
                kinds.add(len(lean(plan, book).drawn_names()))
        self.assertLessEqual({0, 1, 2}, kinds)

    def test_new_lists_each_time(self):
        plan, book = example_plan(), [(["b"], [X])]
        needless_draws(plan, book).clear()
        self.assertEqual([needless_draws(plan, book), plan, book], [["r"], example_plan(), [(["b"], [X])]])

    def test_wrong(self):
        plan = example_plan()
        for call in (needless_draws, lean):
            for value in NO_LISTS:
                fails(self, InvalidBook, call, plan, value, position=None)
            for entry in (None, (["a"],), ([["a"]], []), (["c"], []), (["a"], None), (["a"], [Sum.of(5, r=1)]), [[], []]):
                fails(self, InvalidBook, call, plan, [(["a"], []), entry], position=1)
            fails(self, NotQuiet, call, plan, [(["b"], []), (["a"], [X * 2]), (["a"], []), (["b", "a"], [])], index=2)
            fails(self, NotQuiet, call, plan, [(["a"], [])], index=0)


def masked(chance):
    """Return a plan in which a sends b sums of private and drawn numbers, which b wants."""
    steps = [("own", "a", "x"), ("own", "a", "y"), ("draw", "a", "r"), ("draw", "a", "s"), ("draw", "a", "t")]
    for at in range(chance.randrange(1, 4)):
        total = random_sum(chance, 3, ["x", "y", "r", "s", "t"])
        steps += [("make", "a", f"m{at}", total), ("send", "a", "b", f"m{at}"), ("want", "b", f"m{at}", Sum(3, {}))]
    return Plan(3, ["a", "b"], steps)


if __name__ == "__main__":
    unittest.main()
