"""Sittings: hands that sit in single rounds of a history, and what few of them learn together."""

from quietsums.picking import picked
from quietsums.shifts import is_unmoved, separation
from quietsums.spaces import Space

MOST_AT_ONCE = 3


class Sittings:
    """What the groups of some rounds see, and the groups from which the shifts found so far hide a target."""

    def __init__(self, history, heard, target):
        self._heard = heard
        self._target = target
        self._seen = {}
        for at, scene in enumerate(history.scenes()):
            for many in range(1, MOST_AT_ONCE + 1):
                for group in picked(scene.hands(), many):
                    self._seen[(at, group)] = scene.space(group)
        self._hidden = []

    def learn(self, chosen):
        """Tell whether some sittings, a sorted tuple of rounds and hands, learn the target."""
        places = _groups_by_rounds(chosen)
        for hidden in self._hidden:
            if all([place in hidden for place in places]):
                return False
        sums = [total for place in places for total in self._seen[place].basis()]
        shift = separation(self._heard.joined(Space(self._heard.modulus, sums)), self._target)
        if shift is None:
            return True
        # It moves nothing that everybody hears. So it hides the target from more groups than these.
        self._hidden.append({place: True for place, space in self._seen.items() if is_unmoved(space, shift)})
        return False


def all_sittings(history):
    """Return the sorted list of all tuples of a round and a hand that was present in it."""
    return [(at, hand) for at, scene in enumerate(history.scenes()) for hand in scene.hands()]


def _groups_by_rounds(chosen):
    """Return the list of the tuples of a round and the group that sits in it."""
    groups = {}
    for at, hand in chosen:
        groups[at] = groups.get(at, ()) + (hand,)
    return [(at, group) for at, group in groups.items()]
