"""What the tests of histories share: histories that a seed decides, and plans in which the same happens."""

from random import Random

from quietsums.around import form_of
from quietsums.doors import Doors
from quietsums.errors import NameTaken
from quietsums.histories import History
from quietsums.plans import Plan
from tests.door_helpers import random_part

HANDS = ["c", "a", "b", "d1", "e"]


class Story:
    """A history, and a plan with the parts whose forms are its rounds. What a hand that stops holds, it drops."""

    def __init__(self, modulus, hands):
        self.history = History(modulus, hands)
        self.plan = Plan(modulus, HANDS, [])
        self.spans = []
        self.parts = []

    def own(self, hand, name):
        self.history.own(hand, name)
        self.plan = self.plan.extended(("own", hand, name))

    def drop(self, hand, name):
        self.history.drop(hand, name)
        self.plan = self.plan.extended(("drop", hand, name))

    def stop(self, hand):
        drops = [("drop", hand, name) for name in self.history.held(hand)]
        self.plan = self.plan.extended(*drops)
        self.history.stop(hand)

    def put(self, part):
        """Let a part be a round; a part that tells an in that was told before is left out."""
        steps = self.plan.steps()
        try:
            plan = part.placed(HANDS, steps, [])
        except NameTaken:
            return
        begin, _, end = part.moments(HANDS, steps)
        self.spans.append((begin, end))
        self.parts.append(part)
        self.plan = plan
        self.history.put(form_of(part))

    def seats(self, watch):
        """Return the watch of the plan that sits where a watch of the history does."""
        return [(hand, *span) for span, group in zip(self.spans, watch) for hand in group]

    def present(self):
        """Return the list of the hands that are present in each round."""
        return [scene.hands() for scene in self.history.scenes()]


def random_story(seed, length=9, most_hands=3):
    """Return a story with private numbers, rounds, drops, and hands that stop and enter."""
    chance = Random(seed)
    story = Story(chance.choice((2, 3)), HANDS[:chance.randrange(1, most_hands + 1)])
    history = story.history
    for at in range(length):
        hands = history.hands()
        kind = chance.choice(("own", "own", "put", "put", "put", "drop", "drop", "stop", "enter"))
        hand = chance.choice(hands) if hands else None
        if kind == "own" and hand and len(history.own_names()) < 4:
            story.own(hand, f"x{at}")
        elif kind == "put" and hand and len(history) < 4:
            story.put(random_round(chance, history, str(at)))
        elif kind == "drop" and hand and history.held(hand):
            story.drop(hand, chance.choice(history.held(hand)))
        elif kind == "stop" and len(hands) > 1 and chance.random() < 0.5:
            story.stop(hand)
        elif kind == "enter" and len(hands) < 3:
            new = [other for other in HANDS if other not in history.had_hands()]
            if new:
                history.enter(new[0])
    return story


def random_round(chance, history, mark):
    """Return a part for some present hands, with ins that they hold and new outs."""
    hands = chance.sample(history.hands(), chance.randrange(1, len(history.hands()) + 1))
    ins = {}
    for name in sorted({name for hand in hands for name in history.held(hand)}):
        holders = [hand for hand in hands if name in history.held(hand)]
        if chance.random() < 0.7 and len(ins) < 4:
            ins[name] = chance.sample(holders, chance.randrange(1, len(holders) + 1))
    outs = {name + mark: chance.sample(hands, chance.randrange(1, len(hands) + 1))
            for name in ("y", "z")[:chance.randrange(3)]}
    doors = Doors(history.modulus, hands, ins, outs)
    return random_part(chance.randrange(10 ** 6), doors, mark="k" + mark + "k", length=6)


def random_sittings(chance, story):
    """Return a watch of the history of a story."""
    return [chance.sample(hands, chance.randrange(len(hands) + 1)) for hands in story.present()]
