"""Mending: what is learned in a history, what groups can tell, what is lost, and how sums are handed on."""

from quietsums.checks import is_group, is_known, is_list, require_group
from quietsums.errors import InvalidWatch, Lost, TooMany, UnknownHand
from quietsums.picking import all_groups, is_part, picked
from quietsums.rows import multiples
from quietsums.shifts import is_separation, separation
from quietsums.sittings import MOST_AT_ONCE, Sittings, all_sittings
from quietsums.spaces import Space
from quietsums.steering import least_round
from quietsums.sums import Sum, require_sum, require_sum_of

MOST_SITTINGS = 24


def learned_of(history, watch):
    """Return the space of the sums of private numbers that a watch learns."""
    _require_watch(history, watch)
    sums = [total for scene, group in zip(history.scenes(), watch) for total in scene.space(group).basis()]
    private = history.own_names()
    return Space(history.modulus, sums).without([name for name in history.names() if name not in private])


def public(history):
    """Return the space of what everybody hears."""
    sums = [total for ladder in history.rounds() for total in ladder.space([]).basis()]
    return Space(history.modulus, sums)


def tellable(history, group):
    """Return the space of all sums of names of the history that a group can tell."""
    require_group(group, history.hands())
    names = [name for hand in group for name in history.held(hand)]
    return public(history).joined(Space.everything(history.modulus, names))


def least_tellers(history, target):
    """Return the list of the groups that can tell the target and have no smaller part that can."""
    _require_target(history, target)
    found = []
    for group in all_groups(history.hands()):
        if not any([is_part(least, group) for least in found]) and target in tellable(history, group):
            found.append(group)
    return found


def loss(history, target):
    """Return a shift that moves the target, no held name and nothing that everybody hears, or None."""
    _require_target(history, target)
    return separation(tellable(history, history.hands()), target)


def is_loss(history, target, value):
    """Tell whether a value is a shift of names of the history that shows that the target is lost."""
    _require_target(history, target)
    if not is_separation(tellable(history, history.hands()), target, value):
        return False
    names = history.names()
    return all([name in names for name in value])


def expressed(history, target):
    """Return a sum of held names that differs from the target by what everybody hears."""
    _require_target(history, target)
    held = sorted({name for hand in history.hands() for name in history.held(hand)})
    heard = [total.weights() for total in public(history).basis()]
    numbers = multiples(history.modulus, [{name: 1} for name in held] + heard, target.weights())
    if numbers is None:
        raise Lost(target)
    return Sum(history.modulus, {name: number for name, number in zip(held, numbers)}, target.constant)


def hand_on(history, hand, name, target):
    """Hand a sum of held names on to a present hand, under a new name, and return the ladder of the round."""
    if not is_known(hand, history.hands()):
        raise UnknownHand(hand)
    history.require_new(name)
    require_sum(history.modulus, target)
    ladder = least_round(history, history.hands(), {name: [hand]}, {name: target})
    history.put(ladder)
    return ladder


def fewest_sittings(history, target):
    """Return the sorted list of the fewest sittings, at most three, that learn the target, or None."""
    places = all_sittings(history)
    if len(places) > MOST_SITTINGS:
        raise TooMany(MOST_SITTINGS)
    require_sum_of(history.modulus, target, history.own_names())
    sittings = Sittings(history, public(history), target)
    for many in range(MOST_AT_ONCE + 1):
        for chosen in picked(places, many):
            if sittings.learn(chosen):
                return list(chosen)
    return None


def _require_watch(history, watch):
    """Raise InvalidWatch unless the value is a list with a group of present hands for each round."""
    if not is_list(watch) or len(watch) != len(history):
        raise InvalidWatch(None)
    for position, scene in enumerate(history.scenes()):
        if not is_group(watch[position], scene.hands()):
            raise InvalidWatch(position)


def _require_target(history, target):
    """Raise an error unless the target is a sum of names of the history."""
    require_sum_of(history.modulus, target, history.names())
