"""Rounds that give hands the sums that somebody wants them to have, and let nobody know more than that."""

from quietsums.demands import Demands, least_ladder
from quietsums.doors import Doors
from quietsums.errors import UnknownName
from quietsums.sums import Sum


def least_round(history, hands, outs, sums):
    """Return the least ladder by which present hands get new names as sums of names that they hold.

    The outs are a dict from the new names to their holders, the sums one from them to what they shall equal.
    """
    ins = {}
    for name in sorted({name for total in sums.values() for name in total.names()}):
        ins[name] = [hand for hand in hands if name in history.held(hand)]
        if len(ins[name]) == 0:
            raise UnknownName(name)
    relations = [Sum(history.modulus, {name: 1}) - total for name, total in sums.items()]
    return least_ladder(Demands(Doors(history.modulus, hands, ins, outs), relations, []))
