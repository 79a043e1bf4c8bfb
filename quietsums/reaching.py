"""Reach: which sums of ins hands can pass on to each other if only some of them draw, and what bars a ladder."""

from quietsums.dealing import solved
from quietsums.picking import is_part
from quietsums.rows import multiples
from quietsums.spaces import Space
from quietsums.sums import Sum


class Reach:
    """The reach of each hand, and the moves by which it grows: tuples of a giver, a taker and a sum of ins."""

    def __init__(self, ladder, drawers):
        doors = ladder.doors
        self._modulus = doors.modulus
        self._bounds = {hand: _space_with(ladder, drawers, hand) for hand in doors.hands()}
        self._reached = {hand: Space.everything(doors.modulus, ins_of(doors, hand)) for hand in doors.hands()}
        self._moves = []
        before = -1
        while before < len(self._moves):
            before = len(self._moves)
            for giver in doors.hands():
                for taker in doors.hands():
                    self._pass_on(giver, taker)

    def space(self, hand):
        """Return the reach of a hand."""
        return self._reached[hand]

    def moves(self):
        """Return the list of the moves, in a sequence in which each giver has what it gives."""
        return list(self._moves)

    def parted(self, hands, target):
        """Return a dict from some hands to sums in their reaches that add up to the target."""
        places = [(hand, total) for hand in hands for total in self._reached[hand].basis()]
        numbers = multiples(self._modulus, [total.weights() for _, total in places], target.weights())
        found = {hand: Sum(self._modulus, {}) for hand in hands}
        for (hand, total), number in zip(places, numbers):
            found[hand] = found[hand] + total * number
        return found

    def _pass_on(self, giver, taker):
        possible = self._reached[giver].shared(self._bounds[taker])
        for total in possible.basis():
            if total not in self._reached[taker]:
                self._reached[taker] = self._reached[taker].joined(Space(self._modulus, [total]))
                self._moves.append((giver, taker, total))


def first_bar(ladder, drawers):
    """Return the first of the three conditions for the drawers that does not hold, as a tuple, or None."""
    outs = ladder.doors.outs()
    for name in outs:
        if leaning(ladder, drawers, name) is None:
            return "out", name
    for group, space in ladder.walk():
        if is_part(drawers, group):
            target = _first_outside(space, _spanned_with(ladder, drawers, group))
            if target is not None:
                return "apart", group, target
    reach = Reach(ladder, drawers)
    for hand in ladder.doors.hands():
        target = _first_outside(_space_with(ladder, drawers, hand).without(outs), reach.space(hand))
        if target is not None:
            return "reach", hand, target
    return None


def leaning(ladder, drawers, name):
    """Return a sum of ins from which an out differs by a sum that the drawers know, or None."""
    others = [other for other in ladder.doors.outs() if other != name]
    return solved(ladder.space(drawers).without(others), name)


def ins_of(doors, hand):
    """Return the sorted list of the ins of which a hand is a holder."""
    return [name for name in doors.ins() if hand in doors.holders(name)]


def ins_part(doors, total):
    """Return what a sum has of ins."""
    return Sum(doors.modulus, {name: total.weight(name) for name in doors.ins()})


def _space_with(ladder, group, hand):
    """Return the space of a group together with a hand."""
    return ladder.space(list(group) if hand in group else list(group) + [hand])


def _spanned_with(ladder, drawers, group):
    """Return the space that the spaces of the drawers together with one hand of a greater group span."""
    space = ladder.space(drawers)
    for hand in group:
        space = space.joined(_space_with(ladder, drawers, hand))
    return space


def _first_outside(space, bound):
    """Return the first sum of the basis of a space that is not in another one, or None."""
    outside = [total for total in space.basis() if total not in bound]
    return outside[0] if len(outside) > 0 else None
