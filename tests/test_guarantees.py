"""Point [4]: the guarantees, each over several files."""

import unittest
from collections import Counter
from random import Random

from quietsums.around import form_of, hearing, is_known_reason, is_known_shift, is_parting, joined, known_reason, known_shift
from quietsums.around import parting, using
from quietsums.bars import bar, first_barred, is_bar
from quietsums.covers import cover, fewest_seats, is_cover
from quietsums.demands import Demands, fulfils, least_ladder
from quietsums.doors import Doors
from quietsums.errors import NameTaken
from quietsums.making import dealt, part_for
from quietsums.mending import expressed, hand_on, is_loss, learned_of, least_tellers, loss, public, tellable
from quietsums.runs import breaking_world, run, wants
from quietsums.shifts import combination, is_combination, is_separation, moved, separation
from quietsums.sums import Sum
from quietsums.watches import heard, hiding_shift, is_hiding_shift, is_reason, learns, reason, same_frequencies
from quietsums.wrong import check, explanation, is_check, is_explanation
from tests.door_helpers import random_demands, random_doors, random_ladder, random_part
from tests.helpers import random_plan, random_sum, random_watch, world_list
from tests.history_helpers import random_sittings, random_story
from tests.test_wrong import random_error


def frequencies(plan, watch, numbers):
    """Return how often a watch observes what, over all worlds for the drawn names."""
    names = heard(plan, watch)
    found = Counter()
    for world in world_list(plan.modulus, plan.drawn_names()):
        known = run(plan, {**numbers, **world})
        found[tuple(known[name] for name in names)] += 1
    return found


def surrounded(chance, part):
    """Return hands and steps ahead of a part that a seed decides, after which it can be placed."""
    hands = [*part.doors.hands(), "outer"]
    steps = []
    for name in part.doors.ins():
        first, *others = part.doors.holders(name)
        kind = chance.choice(("own", "own", "draw", "make"))
        if kind == "make":
            steps += [("own", first, name + "b"), ("make", first, name, Sum(part.doors.modulus, {name + "b": 1}, chance.randrange(2)))]
        else:
            steps.append((kind, first, name))
        steps += [("send", first, other, name) for other in others]
        if chance.random() < 0.5:
            steps.append(("send", first, "outer", name))
    return hands, steps


def steps_behind(chance, plan, modulus):
    """Return some steps behind a part: sums of what is held are made and told, or wanted to be something."""
    steps = []
    for at in range(4):
        hand = chance.choice(plan.hands())
        # What the part itself made is not held everywhere. So only doors and names ahead are used.
        held = [name for name in plan.held(hand, len(plan)) if len(name) < 3]
        steps.append(("make", hand, f"late{at}", random_sum(chance, modulus, held)))
        if chance.random() < 0.5:
            steps.append(("tell", hand, f"late{at}"))
        steps.append(("want", hand, f"late{at}", random_sum(chance, modulus, plan.own_names())))
    return steps


class Exact(unittest.TestCase):
    def test_learned_or_equally_frequent(self):
        found = Counter()
        for seed in range(150):
            plan, chance = random_plan(seed), Random(seed)
            watch = random_watch(chance, plan)
            target = random_sum(chance, plan.modulus, plan.own_names())
            numbers = {name: chance.randrange(plan.modulus) for name in plan.own_names()}
            shift = hiding_shift(plan, watch, target)
            found[shift is None] += 1
            self.assertIs(shift is None, learns(plan, watch, target))
            if shift is None:
                for other in world_list(plan.modulus, plan.own_names()):
                    if target.at(other) != target.at(numbers):
                        self.assertFalse(same_frequencies(plan, watch, numbers, other))
                        # What is observed never occurs for both: nothing is learned partly.
                        self.assertFalse(set(frequencies(plan, watch, numbers)) & set(frequencies(plan, watch, other)))
            else:
                other = {name: (number + shift.get(name, 0)) % plan.modulus for name, number in numbers.items()}
                self.assertNotEqual(target.at(other), target.at(numbers))
                self.assertTrue(same_frequencies(plan, watch, numbers, other))
                self.assertEqual(frequencies(plan, watch, numbers), frequencies(plan, watch, other))
        self.assertGreater(min(found.values()), 30)


class Alike(unittest.TestCase):
    def test_forms_decide(self):
        found = Counter()
        for seed in range(150):
            doors = random_doors(Random(seed), most_doors=3)
            part = random_part(seed, doors)
            other = random_part(seed + 1000, doors) if seed % 2 else part_for(form_of(part))
            form, further = form_of(part), form_of(other)
            apart = parting(part, other)
            self.assertIs(apart is None, form == further)
            self.assertIs(is_parting(part, other, apart), form != further)
            spaces = [group for group in doors.groups() if form.space(group) != further.space(group)]
            found[apart and apart[0]] += 1
            if spaces:
                self.assertEqual(apart[0], "hear")
            elif apart is not None:
                self.assertEqual(apart[0], "hold")
            if not spaces:
                self.check_alike(Random(seed), part, other, form == further)
        self.assertGreater(min(found[None], found["hear"]), 30)

    def check_alike(self, chance, part, other, fully):
        """Check that in a drawn plan around both parts every watch learns the same, and wants are equally true."""
        hands, ahead = surrounded(chance, part)
        begin, end, after = part.moments(hands, ahead)
        other_end, other_after = other.moments(hands, ahead)[1:]
        behind = steps_behind(chance, part.placed(hands, ahead, []), part.doors.modulus)
        try:
            plan, further = part.placed(hands, ahead, behind), other.placed(hands, ahead, behind)
        except NameTaken:
            return
        for _ in range(5):
            group = chance.sample(hands, chance.randrange(len(hands) + 1))
            late = chance.sample(hands, chance.randrange(len(hands) + 1))
            seats = [(hand, begin, end) for hand in group] + [(hand, after, len(plan)) for hand in late]
            others = [(hand, begin, other_end) for hand in group] + [(hand, other_after, len(further)) for hand in late]
            target = random_sum(chance, plan.modulus, plan.own_names())
            self.assertEqual(learns(plan, seats, target), learns(further, others, target))
        if fully:
            self.assertEqual([true for _, true in wants(plan)], [true for _, true in wants(further)])

    def test_hearing_and_using(self):
        for seed in range(60):
            part, chance = random_part(seed), Random(seed)
            form = form_of(part)
            target = random_sum(chance, part.doors.modulus, part.doors.names())
            for group in part.doors.groups():
                plan, watch, secret = hearing(part, group, target)
                self.assertIs(learns(plan, watch, secret), target in form.space(group))
            plan, position = using(part, target)
            self.assertIs(breaking_world(plan, position) is None, target in form.relations)


class Made(unittest.TestCase):
    def test_every_ladder(self):
        for seed in range(80):
            ladder = random_ladder(seed)
            for part in (part_for(ladder), part_for(dealt(ladder).form())):
                self.assertEqual(form_of(part), ladder)

    def test_joined_parts(self):
        for seed in range(30):
            doors = random_doors(Random(seed), most_doors=3)
            ladder = form_of(random_part(seed, doors))
            outs = {name: doors.holders(name) for name in doors.outs()}
            other = random_ladder(seed, Doors(doors.modulus, doors.hands(), outs, {}))
            self.assertEqual(form_of(part_for(joined(ladder, other))), joined(ladder, other))


class Least(unittest.TestCase):
    def test_no_part_lets_know_less(self):
        many = 0
        for seed in range(120):
            part, chance = random_part(seed), Random(seed)
            form = form_of(part)
            # Demands that this part fulfils.
            relations = chance.sample(form.relations.basis(), chance.randrange(form.relations.dimension + 1))
            must = []
            for _ in range(3):
                group = chance.choice(form.doors.groups())
                for total in form.space(group).basis()[:1]:
                    must.append((group, total))
            demands = Demands(form.doors, relations, must)
            self.assertTrue(fulfils(form, demands))
            least = least_ladder(demands)
            self.assertTrue(fulfils(form_of(part_for(least)), demands))
            self.assertTrue(least.relations.within(form.relations))
            for group, space in least.walk():
                self.assertTrue(space.within(form.space(group)))
                many += space != form.space(group)
                for total in space.basis():
                    self.assertEqual(first_barred(demands, [(group, total)]), 0)
                    self.assertIsNotNone(known_reason(part, group, total))
        self.assertGreater(many, 30)


class HandedOn(unittest.TestCase):
    def test_while_it_can_be_told(self):
        found = Counter()
        for seed in range(150):
            story, chance = random_story(seed), Random(seed)
            history = story.history
            target = random_sum(chance, history.modulus, history.names())
            if not history.hands():
                continue
            shift = loss(history, target)
            found[shift is None] += 1
            if shift is not None:
                self.assertTrue(is_loss(history, target, shift))
                self.assertEqual(least_tellers(history, target), [])
                continue
            hand = chance.choice(history.hands())
            watch = random_sittings(chance, story)
            others = [other for other in history.hands() if other != hand]
            before = learned_of(history, watch)
            said = {other: tellable(history, [other]) for other in others}
            ladder = hand_on(history, hand, "new", expressed(history, target))
            # The one hand can tell it; who does not sit in the new round learns no more, and what everybody hears is the same.
            self.assertIn(target, tellable(history, [hand]))
            self.assertEqual(learned_of(history, [*watch, []]), before)
            for other in others:
                self.assertEqual(tellable(history, [other]).without(["new"]), said[other])
            # A part whose form is the round does it in a plan.
            self.assertEqual(form_of(part_for(ladder)), ladder)
        self.assertGreater(min(found.values()), 20)


class Checked(unittest.TestCase):
    def test_sums_and_watches(self):
        for seed in range(80):
            plan, chance = random_plan(seed), Random(seed)
            watch = random_watch(chance, plan)
            target = random_sum(chance, plan.modulus, plan.own_names())
            why, shift = reason(plan, watch, target), hiding_shift(plan, watch, target)
            self.assertNotEqual(is_reason(plan, watch, target, why), is_hiding_shift(plan, watch, target, shift))
            few, covered = fewest_seats(plan, watch, target), cover(plan, watch, target, 2)
            self.assertNotEqual(few is not None and len(few) <= 2, is_cover(plan, watch, target, 2, covered))
            meanings = [plan.meaning(name) for name in plan.names()]
            if meanings:
                numbers = combination(meanings, target)
                self.assertIs(is_combination(meanings, target, numbers), numbers is not None)
            space = public(random_story(seed).history)
            total = random_sum(chance, space.modulus, [*space.names(), "x"])
            self.assertIs(is_separation(space, total, separation(space, total)), total not in space)

    def test_parts_and_demands(self):
        for seed in range(80):
            part, demands, chance = random_part(seed), random_demands(seed), Random(seed)
            group = chance.choice(part.doors.groups())
            target = random_sum(chance, part.doors.modulus, part.doors.names())
            why, shift = known_reason(part, group, target), known_shift(part, group, target)
            self.assertNotEqual(is_known_reason(part, group, target, why), is_known_shift(part, group, target, shift))
            group = chance.choice(demands.doors.groups())
            target = random_sum(chance, demands.doors.modulus, demands.doors.names())
            space = least_ladder(demands).space(group)
            self.assertNotEqual(is_bar(demands, group, target, bar(demands, group, target)),
                                is_separation(space, target, separation(space, target)))

    def test_wrong_sends_and_losses(self):
        for seed in range(80):
            plan, chance = random_plan(seed), Random(seed)
            error = random_error(chance, plan)
            group = chance.sample(plan.hands(), chance.randrange(len(plan.hands()) + 1))
            self.assertNotEqual(is_check(plan, error, group, check(plan, error, group)),
                                is_explanation(plan, error, group, explanation(plan, error, group)))
            history = random_story(seed).history
            target = random_sum(chance, history.modulus, history.names())
            shift = loss(history, target)
            if is_loss(history, target, shift):
                self.assertTrue(moved(target, shift))
            else:
                self.assertIn(expressed(history, target) - target, public(history))


if __name__ == "__main__":
    unittest.main()
