"""What the tests of doors share: doors, parts, ladders and demands that a seed decides, and a plain model of parts."""

from random import Random

from quietsums.deals import Deal
from quietsums.demands import Demands, least_ladder
from quietsums.doors import Doors
from quietsums.errors import Contradiction, TiedIns
from quietsums.parts import Part
from quietsums.sums import Sum
from tests.helpers import random_sum, world_list

HANDS = ["b", "a", "c1", "d"]


def random_doors(chance, most_hands=3, most_doors=4, modulus=None):
    """Return doors for a few hands; some have no ins, some no outs."""
    hands = HANDS[:chance.randrange(1, most_hands + 1)]
    found = ({}, {})
    for name in ["z", "y", "x", "w", "v"][:chance.randrange(most_doors + 1)]:
        chance.choice(found)[name] = chance.sample(hands, chance.randrange(1, len(hands) + 1))
    return Doors(modulus or chance.choice((2, 3)), hands, *found)


def random_part(seed, doors=None, most_drawn=2, length=7, mark=""):
    """Return a part with steps of all kinds."""
    chance = Random(seed)
    doors = doors or random_doors(chance)
    held = {hand: {name for name in doors.ins() if hand in doors.holders(name)} for hand in doors.hands()}
    steps, told, drawn = [], set(), 0
    for at in range(length):
        hand = chance.choice(doors.hands())
        has = sorted(held[hand])
        kind = chance.choice(("draw", "make", "make", "send", "send", "send", "tell", "drop"))
        new = chance.choice("rst") + mark + str(at)
        if kind == "draw" and drawn < most_drawn:
            drawn += 1
            steps.append((kind, hand, new))
            held[hand].add(new)
        elif kind == "make":
            steps.append((kind, hand, new, random_sum(chance, doors.modulus, has)))
            held[hand].add(new)
        elif kind == "send" and has and len(doors.hands()) > 1:
            other = chance.choice([other for other in doors.hands() if other != hand])
            steps.append((kind, hand, other, chance.choice(has)))
            held[other].add(steps[-1][3])
        elif kind == "tell" and set(has) - told and chance.random() < 0.4:
            steps.append((kind, hand, chance.choice(sorted(set(has) - told))))
            told.add(steps[-1][2])
            for names in held.values():
                names.add(steps[-1][2])
        elif kind == "drop" and set(has) - set(doors.ins()):
            steps.append((kind, hand, chance.choice(sorted(set(has) - set(doors.ins())))))
            held[hand].remove(steps[-1][2])
    for name in chance.sample(doors.outs(), len(doors.outs())):
        steps += outs_made(chance, doors, name, held)
    return Part(doors, steps)


def outs_made(chance, doors, name, held):
    """Return steps that make an out and send it to its holders."""
    first, *others = doors.holders(name)
    total = random_sum(chance, doors.modulus, sorted(held[first]))
    held[first].add(name)
    steps = [("make", first, name, total)] if chance.random() < 0.85 else [("draw", first, name)]
    return steps + [("send", first, other, name) for other in others]


def part_holdings(part):
    """Return for each moment a dict from the hands to the sets of what they hold."""
    now = {hand: set() for hand in part.doors.hands()}
    for name in part.doors.ins():
        for hand in part.doors.holders(name):
            now[hand].add(name)
    found = [{hand: set(names) for hand, names in now.items()}]
    for step in part.steps():
        if step[0] in ("draw", "make"):
            now[step[1]].add(step[2])
        elif step[0] == "send":
            now[step[2]].add(step[3])
        elif step[0] == "tell":
            for names in now.values():
                names.add(step[2])
        else:
            now[step[1]].remove(step[2])
        found.append({hand: set(names) for hand, names in now.items()})
    return found


def seen_names(part, group):
    """Return the set of the names that a group sees, by the words of the document."""
    names = {step[2] for step in part.steps() if step[0] == "tell"}
    for held in part_holdings(part):
        for hand in group:
            names |= held[hand]
    return names


def base_names(part):
    """Return the ins and the drawn names."""
    return part.doors.ins() + [step[2] for step in part.steps() if step[0] == "draw"]


def part_values(part, world):
    """Return the numbers of all names of a part, computed step by step."""
    found = {name: world[name] for name in part.doors.ins()}
    for step in part.steps():
        if step[0] == "draw":
            found[step[2]] = world[step[2]]
        elif step[0] == "make":
            found[step[2]] = step[3].at(found)
    return found


def all_values(part):
    """Return the numbers of all names of a part in all worlds."""
    return [part_values(part, world) for world in world_list(part.doors.modulus, base_names(part))]


def door_sums(doors, constants=(0,)):
    """Return all door sums with these constants."""
    return [Sum(doors.modulus, weights, constant) for weights in world_list(doors.modulus, doors.names())
            for constant in constants]


def random_demands(seed, doors=None, most=4):
    """Return demands that neither contradict themselves nor tie the ins."""
    chance = Random(seed)
    doors = doors or random_doors(chance)
    groups = doors.groups()
    relations = []
    for _ in range(chance.randrange(3)):
        more = [*relations, random_sum(chance, doors.modulus, doors.names())]
        try:
            Demands(doors, more, [])
        except (Contradiction, TiedIns):
            continue
        relations = more
    must = []
    for _ in range(chance.randrange(most + 1)):
        group = chance.choice(groups)
        must.append((chance.sample(group, len(group)), random_sum(chance, doors.modulus, doors.names())))
    return Demands(doors, relations, must)


def random_ladder(seed, doors=None):
    return least_ladder(random_demands(seed, doors))


def example_doors():
    """Return the doors of the document's example: a, b and c hold x, y and z; c gets t."""
    return Doors(3, ["a", "b", "c"], {"x": ["a"], "y": ["b"], "z": ["c"]}, {"t": ["c"]})


def passed_on():
    """Return the two parts of the document's example for partings."""
    doors = Doors(3, ["a"], {"x": ["a"]}, {"y": ["a"]})
    plain = Part(doors, [("make", "a", "y", Sum.of(3, x=1))])
    masked = Part(doors, [("draw", "a", "r"), ("tell", "a", "r"), ("make", "a", "y", Sum.of(3, x=1, r=1))])
    return plain, masked


def random_deal(seed, doors=None, most_drawn=2):
    """Return a deal with drawn names, and with numbers that are handed to hands and told ones."""
    chance = Random(seed)
    doors = doors or random_doors(chance)
    drawn = [f"d{at}" for at in range(chance.randrange(most_drawn + 1))]
    bases = doors.ins() + drawn
    numbers = []
    for name in chance.sample(doors.outs(), len(doors.outs())):
        total = random_sum(chance, doors.modulus, bases)
        # Some are handed to others as well, twice, or told.
        more = [hand for hand in [*doors.hands(), None] if chance.random() < 0.15]
        numbers += [(name, hand, total) for hand in doors.holders(name) + more]
    for at in range(chance.randrange(4)):
        total = random_sum(chance, doors.modulus, bases)
        takers = chance.sample([*doors.hands(), None], chance.randrange(1, 3) if len(doors.hands()) > 1 else 1)
        numbers += [(f"n{at}", hand, total) for hand in takers]
    chance.shuffle(numbers)
    return Deal(doors, drawn, numbers)
