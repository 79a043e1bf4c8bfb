"""A dealer: outs as the relations of a ladder say, and numbers for whom the ladder lets know more."""

from quietsums.deals import Deal
from quietsums.forms import put_meanings
from quietsums.naming import FreshNames
from quietsums.rows import inverse
from quietsums.sums import Sum


class Dealer:
    """Draws numbers, hands the outs to their holders, and hands out and tells what else is known.

    The leanings are sums of ins, by outs: an out that no relation ties is its leaning plus a drawn number.
    """

    def __init__(self, ladder, leanings):
        self._doors = ladder.doors
        self._names = FreshNames("r", ladder.doors.names())
        self._drawn = []
        self._numbers = []
        self._meanings = {name: self._one(name) for name in ladder.doors.ins()}
        outs = ladder.doors.outs()
        for at, name in enumerate(outs):
            tied = solved(ladder.relations.without(outs[at + 1:]), name)
            if tied is None:
                self._meanings[name] = leanings.get(name, Sum(self._doors.modulus, {})) + self._draw()
            else:
                self._meanings[name] = self.meaning(tied)
            for hand in ladder.doors.holders(name):
                self._numbers.append((name, hand, self._meanings[name]))

    def meaning(self, target):
        """Return the sum of ins and drawn names that a door sum equals."""
        return put_meanings(target, self._meanings)

    def tell(self, total):
        """Tell a sum of ins and drawn names."""
        self._numbers.append((self._names.fresh(), None, total))

    def share(self, parts):
        """Hand to each hand its part of what only all of them together shall know."""
        *others, last = list(parts)
        rest = parts[last]
        for hand in others:
            mask = self._draw()
            self._numbers.append((self._names.fresh(), hand, parts[hand] + mask))
            rest = rest - mask
        self._numbers.append((self._names.fresh(), last, rest))

    def deal(self):
        """Return the deal of all this."""
        return Deal(self._doors, self._drawn, self._numbers)

    def _one(self, name):
        return Sum(self._doors.modulus, {name: 1})

    def _draw(self):
        name = self._names.fresh()
        self._drawn.append(name)
        return self._one(name)


def solved(spanned, name):
    """Return a sum of other names from which a name differs by a sum of a space, or of relations, or None."""
    for total in spanned.basis():
        weight = total.weight(name)
        if weight != 0:
            rest = total - Sum(total.modulus, {name: weight})
            return rest * -inverse(total.modulus, weight)
    return None
