"""What the tests share: calls that must fail, values of other kinds, and plans with a plain model of them."""

from itertools import product
from random import Random

from quietsums.plans import Plan
from quietsums.sums import Sum

MODULI = (2, 3, 5, 7, 11, 13)


class Plain:
    """An object without anything, not even a hash."""

    __hash__ = None


# Values of all kinds. Each test leaves out those that are valid where it uses them.
NO_DICTS = (None, True, False, 0, 1, -1, "", "x", b"x", [], (), [1], ("x", 1), [("x", 1)], {1: 2}.items(), Plain())
NO_LISTS = (None, True, False, 0, 3, "", "ab", b"ab", {}, {"a": 1}, range(2), {"a"}, Plain())
NO_INTEGERS = (None, True, False, "", "1", b"1", [], [1], (), (1,), {}, {1: 1}, Plain())
NO_NAMES = (None, True, False, 0, 5, "", "X", "1x", "x y", "x_", "xé", "é", "x\n", " x", "x ", "abcdefghijklm",
            b"x", [], ["x"], (), ("x",), {}, {"x": 1}, Plain())
NO_SUMS = (None, True, False, 0, 1, "", "x", b"x", [], (), {}, {"x": 1}, Sum, Plain())
NO_MODULI = (None, True, False, 0, 1, -2, 4, 6, 8, 9, 15, 17, "5", b"5", [], [5], (5,), {}, {5: 5}, Plain())


def fails(case, error, call, *arguments, **wanted):
    """Check that a call raises just this error, with these attributes of these kinds."""
    with case.assertRaises(error) as caught:
        call(*arguments)
    case.assertIs(type(caught.exception), error)
    for name, value in wanted.items():
        found = getattr(caught.exception, name)
        case.assertIs(type(found), type(value), (name, found, value))
        case.assertEqual(found, value)


def world_list(modulus, names):
    """Return all worlds for some names."""
    return [dict(zip(names, numbers)) for numbers in product(range(modulus), repeat=len(names))]


def random_sum(chance, modulus, names, constant=True):
    weights = {name: chance.randrange(modulus) for name in names if chance.random() < 0.7}
    return Sum(modulus, weights, chance.randrange(modulus) if constant else 0)


def holdings(hands, steps):
    """Return for each moment a dict from the hands to the sets of what they hold, by the table of the document."""
    now = {hand: set() for hand in hands}
    found = [{hand: set(names) for hand, names in now.items()}]
    for step in steps:
        kind, hand = step[0], step[1]
        if kind in ("own", "draw", "make"):
            now[hand].add(step[2])
        elif kind == "send":
            now[step[2]].add(step[3])
        elif kind == "tell":
            for other in hands:
                now[other].add(step[2])
        elif kind == "drop":
            now[hand].remove(step[2])
        found.append({other: set(names) for other, names in now.items()})
    return found


def values(plan, world):
    """Return the numbers of all names, computed step by step."""
    found = {}
    for step in plan.steps():
        if step[0] in ("own", "draw"):
            found[step[2]] = world[step[2]]
        elif step[0] == "make":
            found[step[2]] = step[3].at(found)
    return found


def random_plan(seed, most_base=5, length=14):
    """Return a plan with steps of all kinds that the seed decides."""
    chance = Random(seed)
    modulus = chance.choice((2, 3))
    hands = ["b", "a", "x1", "d"][:chance.randrange(1, 5)]
    steps = []
    base = 0
    while len(steps) < length:
        held = holdings(hands, steps)[-1]
        told = [step[2] for step in steps if step[0] == "tell"]
        owned = [step[2] for step in steps if step[0] == "own"]
        hand = chance.choice(hands)
        has = sorted(held[hand])
        kind = chance.choice(("own", "draw", "make", "make", "send", "send", "send", "tell", "drop", "want"))
        new = chance.choice("xyzrst") + str(len(steps))
        if kind in ("own", "draw") and base < most_base:
            base += 1
            steps.append((kind, hand, new))
        elif kind == "make":
            steps.append((kind, hand, new, random_sum(chance, modulus, has)))
        elif kind == "send" and has and len(hands) > 1:
            others = [other for other in hands if other != hand]
            steps.append((kind, hand, chance.choice(others), chance.choice(has)))
        elif kind == "tell" and set(has) - set(told) and chance.random() < 0.3:
            steps.append((kind, hand, chance.choice(sorted(set(has) - set(told)))))
        elif kind == "drop" and has and chance.random() < 0.5:
            steps.append((kind, hand, chance.choice(has)))
        elif kind == "want" and has:
            steps.append((kind, hand, chance.choice(has), random_sum(chance, modulus, owned)))
    return Plan(modulus, hands, steps)


def random_watch(chance, plan, most=3):
    """Return some seats of a plan."""
    seats = []
    for _ in range(chance.randrange(most + 1)):
        begin = chance.randrange(len(plan) + 1)
        seats.append((chance.choice(plan.hands()), begin, chance.randrange(begin, len(plan) + 1)))
    return seats


def example_plan():
    """Return the plan of the document: `a` owns x, draws r, and sends s = x + 4 r to `b`."""
    total = Sum.of(5, x=1, r=4)
    steps = [("own", "a", "x"), ("draw", "a", "r"), ("make", "a", "s", total), ("send", "a", "b", "s")]
    return Plan(5, ["a", "b"], steps)
