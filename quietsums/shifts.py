"""Certificates: combinations show that a sum is in a space, shifts that it is not."""

from quietsums.checks import is_list, is_number, is_shift
from quietsums.errors import InvalidShift, InvalidSum, InvalidSums
from quietsums.rows import multiples
from quietsums.sums import Sum, require_sum, require_sums


def combination(sums, target):
    """Return numbers so that the target minus these multiples of the sums is constant, or None."""
    modulus = _required_modulus(sums, target)
    return multiples(modulus, [total.weights() for total in sums], target.weights())


def is_combination(sums, target, value):
    """Tell whether a value is a combination of the sums for the target."""
    modulus = _required_modulus(sums, target)
    if not is_list(value) or len(value) != len(sums):
        return False
    if not all([is_number(modulus, number) for number in value]):
        return False
    rest = target
    for number, total in zip(value, sums):
        rest = rest - total * number
    return rest.is_constant


def named_combination(named, target):
    """Return a dict from some names of a dict of sums to numbers other than 0, a combination, or None."""
    names = sorted(named)
    if len(names) == 0:
        return {} if target.is_constant else None
    numbers = combination([named[name] for name in names], target)
    if numbers is None:
        return None
    return {name: number for name, number in zip(names, numbers) if number != 0}


def is_named_combination(named, target, value):
    """Tell whether a value is such a dict, of which the multiples leave a constant of the target."""
    if not is_shift(target.modulus, value) or not all([name in named for name in value]):
        return False
    rest = target
    for name, number in value.items():
        rest = rest - named[name] * number
    return rest.is_constant


def separation(space, target):
    """Return a shift that moves the target and no sum of the space, or None."""
    rest = space.reduced(target)
    if rest.is_constant:
        return None
    # No sum of the basis has this name in front, so the leading name of each can make up for it.
    free = rest.names()[0]
    shift = {total.names()[0]: -total.weight(free) % space.modulus for total in space.basis()}
    shift[free] = 1
    return {name: shift[name] for name in sorted(shift) if shift[name] != 0}


def is_separation(space, target, value):
    """Tell whether a value is a shift that moves the target and no sum of the space."""
    require_sum(space.modulus, target)
    return is_shift(space.modulus, value) and moved(target, value) != 0 and is_unmoved(space, value)


def is_unmoved(space, shift):
    """Tell whether a shift moves no sum of a space."""
    return all([moved(total, shift) == 0 for total in space.basis()])


def moved(target, shift):
    """Return the number by which a shift moves a sum."""
    if not isinstance(target, Sum):
        raise InvalidSum(target)
    if not is_shift(target.modulus, shift):
        raise InvalidShift(shift)
    moves = [weight * shift.get(name, 0) for name, weight in target.weights().items()]
    return sum(moves) % target.modulus


def _required_modulus(sums, target):
    """Return the modulus of some sums, or raise an error unless they and the target are sums of one modulus."""
    if not is_list(sums) or len(sums) == 0:
        raise InvalidSums(None)
    if not isinstance(sums[0], Sum):
        raise InvalidSums(0)
    modulus = sums[0].modulus
    require_sums(modulus, sums)
    require_sum(modulus, target)
    return modulus
