"""Making: every ladder is dealt, and every deal is made by the hands themselves."""

from quietsums.benches import Bench
from quietsums.dealing import Dealer
from quietsums.deals import steps_for
from quietsums.errors import TooMany
from quietsums.gaining import gains
from quietsums.sums import Sum

MOST_STEPS = 600


def size_of(ladder):
    """Return how many numbers and how many drawn names are enough to deal a ladder."""
    doors = ladder.doors
    numbers = sum([len(doors.holders(name)) for name in doors.outs()])
    drawn = len(doors.outs())
    for group in doors.groups()[:-1]:
        many = len(gains(ladder, group))
        numbers += many * max(1, len(group))
        drawn += many * max(0, len(group) - 1)
    return numbers, drawn


def dealt(ladder):
    """Return a deal whose form is the ladder."""
    dealer = Dealer(ladder, {})
    zero = Sum(ladder.doors.modulus, {})
    for group in ladder.doors.groups()[:-1]:
        for target in gains(ladder, group):
            total = dealer.meaning(target)
            if len(group) == 0:
                dealer.tell(total)
            else:
                parts = {hand: zero for hand in group}
                parts[group[0]] = total
                dealer.share(parts)
    return dealer.deal()


def made_from(deal):
    """Return a part whose form is that of a deal."""
    if deal.steps_needed > MOST_STEPS:
        raise TooMany(MOST_STEPS)
    return Bench(deal, deal.doors.hands()).part()


def part_for(ladder):
    """Return a part whose form is the ladder."""
    numbers, drawn = size_of(ladder)
    if steps_for(len(ladder.doors.hands()), numbers, drawn) > MOST_STEPS:
        raise TooMany(MOST_STEPS)
    return made_from(dealt(ladder))
