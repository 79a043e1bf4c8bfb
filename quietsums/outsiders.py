"""What stands around a part to hear or to use a door sum: a hand outside, and its steps."""

from quietsums.sums import Sum


def free_name(stem, taken):
    """Return the first one of stem, stem1, stem2, .. that is not taken."""
    name = stem
    number = 0
    while name in taken:
        number += 1
        name = f"{stem}{number}"
    return name


def hands_around(doors):
    """Return the hands of a part, and behind them the one outside."""
    hands = doors.hands()
    return hands + [free_name("outer", hands)]


def steps_ahead(doors, outer):
    """Return the steps after which the holders of the ins and the hand outside hold them."""
    steps = []
    for name in doors.ins():
        first, *others = doors.holders(name)
        steps.append(("own", first, name))
        steps.extend([("send", first, other, name) for other in others + [outer]])
    return steps


def hearing_steps(doors, outer, taken, target):
    """Return the steps behind that tell a door sum plus SECRET, and the sum that is SECRET."""
    total = free_name("total", taken)
    name = free_name("secret", taken)
    secret = Sum(doors.modulus, {name: 1})
    steps = [("own", outer, name), ("make", outer, total, secret + target), ("tell", outer, total)]
    return _outs_sent(doors, outer) + steps, secret


def using_steps(doors, outer, taken, target):
    """Return the steps behind that want a door sum to be 0."""
    total = free_name("total", taken)
    steps = [("make", outer, total, target), ("want", outer, total, Sum(doors.modulus, {}))]
    return _outs_sent(doors, outer) + steps


def seats_inside(part, ahead, group):
    """Return the watch for a group that hears from the moment before the part to the one after its last step."""
    begin = len(ahead)
    return [(hand, begin, begin + len(part)) for hand in sorted(group)]


def _outs_sent(doors, outer):
    return [("send", doors.holders(name)[0], outer, name) for name in doors.outs()]
