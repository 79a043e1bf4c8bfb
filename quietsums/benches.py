"""How hands make a part from a deal: they draw, mask and hand over what nobody else hands out."""

from quietsums.naming import FreshNames
from quietsums.parts import Part
from quietsums.sums import Sum


class Bench:
    """Collects the steps of a part, in which the givers have their own parts of each drawn name of a deal."""

    def __init__(self, deal, givers):
        self._deal = deal
        self._doors = deal.doors
        self._modulus = deal.doors.modulus
        self._givers = list(givers)
        numbers = [name for name, _, _ in deal.numbers()]
        self._names = FreshNames("p", deal.doors.names() + deal.drawn() + numbers)
        self._steps = []
        self._drawn_parts = {giver: {} for giver in self._givers}
        for name in deal.drawn():
            for giver in self._givers:
                self._drawn_parts[giver][name] = self.one(self.draw(giver))

    def part(self):
        """Return the part in which all numbers of the deal are handed over."""
        totals = {name: total for name, _, total in self._deal.numbers()}
        for name, total in totals.items():
            hands = [hand for number, hand, _ in self._deal.numbers() if number == name]
            self._deliver(name, hands, total)
        return Part(self._doors, self._steps)

    def parted(self, taker, total):
        """Return a dict from the givers to their shares of a sum, and the rest that the taker has."""
        doors = self._doors
        shares = {}
        for giver in self._givers:
            ins = {name: total.weight(name) for name in doors.ins() if doors.holders(name)[0] == giver}
            shares[giver] = Sum(self._modulus, ins) + self.drawn_share(giver, total)
        return shares, Sum(self._modulus, {}, total.constant)

    def drawn_share(self, giver, total):
        """Return the giver's part of what a sum has of drawn names."""
        share = Sum(self._modulus, {})
        for name, drawn_part in self._drawn_parts[giver].items():
            share = share + drawn_part * total.weight(name)
        return share

    def one(self, name):
        """Return the sum that is this name."""
        return Sum(self._modulus, {name: 1})

    def draw(self, hand):
        """Let a hand draw a new name, and return it."""
        name = self._names.fresh()
        self._steps.append(("draw", hand, name))
        return name

    def make(self, hand, total):
        """Let a hand make a new name, and return it."""
        name = self._names.fresh()
        self._steps.append(("make", hand, name, total))
        return name

    def send(self, hand, other, name):
        """Let a hand send a name to another one, if it is another one."""
        if hand != other:
            self._steps.append(("send", hand, other, name))

    def _deliver(self, name, hands, total):
        """Let some hands come to hold a number; None among them means that it is told."""
        takers = [hand for hand in self._doors.hands() if hand in hands]
        if len(takers) == 0:
            takers = self._givers[:1]
        self._hand_over(name, takers[0], total)
        for other in takers[1:]:
            self.send(takers[0], other, name)
        if None in hands:
            self._steps.append(("tell", takers[0], name))

    def _hand_over(self, name, taker, total):
        """Let the givers send what they have of a number, masked, to the taker, who adds it."""
        shares, rest = self.parted(taker, total)
        for giver, share in self._masked(shares).items():
            piece = self.make(giver, share)
            self.send(giver, taker, piece)
            rest = rest + self.one(piece)
        self._steps.append(("make", taker, name, rest))

    def _masked(self, shares):
        """Return the shares, masked by numbers that two givers share: the one adds them, the other subtracts them."""
        masked = dict(shares)
        for at, giver in enumerate(self._givers):
            for other in self._givers[at + 1:]:
                mask = self.draw(giver)
                self.send(giver, other, mask)
                masked[giver] = masked[giver] + self.one(mask)
                masked[other] = masked[other] - self.one(mask)
        return masked
