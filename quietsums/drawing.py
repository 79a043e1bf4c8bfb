"""How a part is made in which only some hands draw, if nothing bars it."""

from quietsums.benches import Bench
from quietsums.dealing import Dealer
from quietsums.gaining import gains
from quietsums.picking import is_part
from quietsums.reaching import Reach, ins_of, ins_part, leaning
from quietsums.rows import multiples
from quietsums.sums import Sum


class DrawersBench(Bench):
    """A bench where only the givers draw. Each hand has sums of ins, masked by what the givers know together.

    What a hand has is a list of tuples: a sum of ins; the sum of names of the hand that equals it but for
    masks; and a dict from the givers to the sums of names by which they mask it.
    """

    def __init__(self, deal, givers, moves):
        super().__init__(deal, givers)
        doors = deal.doors
        unmasked = {giver: Sum(doors.modulus, {}) for giver in givers}
        self._had = {}
        for hand in doors.hands():
            self._had[hand] = [(self.one(name), self.one(name), unmasked) for name in ins_of(doors, hand)]
        for giver, taker, total in moves:
            self._move(giver, taker, total)

    def parted(self, taker, total):
        """Return a dict from the givers to their shares of a sum, and the rest that the taker has."""
        held, masks = self._expressed(taker, ins_part(self._doors, total))
        shares = {giver: self.drawn_share(giver, total) - mask for giver, mask in masks.items()}
        return shares, held + Sum(self._modulus, {}, total.constant)

    def _move(self, giver, taker, total):
        """Let a hand send a sum of ins that it has to another hand, under a new mask of each hand that draws."""
        held, masks = self._expressed(giver, total)
        found = {}
        for drawer, mask in masks.items():
            name = self.draw(drawer)
            self.send(drawer, giver, name)
            held = held + self.one(name)
            found[drawer] = mask + self.one(name)
        piece = self.make(giver, held)
        self.send(giver, taker, piece)
        self._had[taker].append((total, self.one(piece), found))

    def _expressed(self, hand, target):
        """Return the sum of names of a hand that equals a sum of ins but for masks, and the masks by givers."""
        had = self._had[hand]
        numbers = multiples(self._modulus, [total.weights() for total, _, _ in had], target.weights())
        found = Sum(self._modulus, {})
        masks = {giver: found for giver in self._givers}
        for (_, held, old), number in zip(had, numbers):
            found = found + held * number
            masks = {giver: mask + old[giver] * number for giver, mask in masks.items()}
        return found, masks


def made_by_drawers(ladder, drawers):
    """Return a part whose form is the ladder and in which only these hands draw; nothing may bar it."""
    reach = Reach(ladder, drawers)
    return DrawersBench(_deal_within(ladder, drawers, reach), drawers, reach.moves()).part()


def _deal_within(ladder, drawers, reach):
    """Return a deal that lets know what the ladder says if the drawers also know all that is drawn.

    What each hand gets has ins only within its reach. So a group with all drawers comes to know no more than
    the reach of its hands, which is all that the ladder lets it know. That is why such groups get nothing here.
    """
    doors = ladder.doors
    dealer = Dealer(ladder, {name: leaning(ladder, drawers, name) for name in doors.outs()})
    for group in doors.groups():
        if not is_part(drawers, group):
            for target in gains(ladder, group):
                _give(dealer, doors, group, dealer.meaning(target), reach)
    return dealer.deal()


def _give(dealer, doors, group, total, reach):
    """Let a group come to know a sum of ins and drawn names, and no smaller part of it."""
    if len(group) == 0:
        dealer.tell(total)
    else:
        ins = ins_part(doors, total)
        parts = reach.parted(group, ins)
        parts[group[0]] = parts[group[0]] + total - ins
        dealer.share(parts)
