"""Watches: what some seats hear together, and which sums of private numbers they learn."""

from quietsums.checks import is_integer, is_known, is_list, is_shift, require_numbers
from quietsums.errors import InvalidWatch
from quietsums.shifts import is_named_combination, is_separation, named_combination, separation
from quietsums.spaces import Space
from quietsums.sums import require_sum_of


def heard(plan, watch):
    """Return the sorted list of the names that a watch hears."""
    require_watch(plan, watch)
    return sorted({name for seat in watch for name in plan.held_within(seat[0], seat[1], seat[2])}
                  | set(plan.told_names()))


def view(plan, watch):
    """Return the space that the meanings of the heard names span."""
    return Space(plan.modulus, list(_heard_sums(plan, watch).values()))


def learned(plan, watch):
    """Return the space of the sums of private numbers that a watch learns."""
    return view(plan, watch).without(plan.drawn_names())


def learns(plan, watch, target):
    """Tell whether a watch learns a sum of private numbers."""
    require_watch(plan, watch)
    require_private(plan, target)
    return target in view(plan, watch)


def reason(plan, watch, target):
    """Return multiples of heard names that leave a constant of the target, or None."""
    require_watch(plan, watch)
    require_private(plan, target)
    return named_combination(_heard_sums(plan, watch), target)


def hiding_shift(plan, watch, target):
    """Return a shift of base names that moves the target and nothing that is heard, or None."""
    require_watch(plan, watch)
    require_private(plan, target)
    return separation(view(plan, watch), target)


def is_reason(plan, watch, target, value):
    """Tell whether a value is a reason why a watch learns the target."""
    require_watch(plan, watch)
    require_private(plan, target)
    return is_named_combination(_heard_sums(plan, watch), target, value)


def is_hiding_shift(plan, watch, target, value):
    """Tell whether a value is a shift of base names that hides the target from a watch."""
    require_watch(plan, watch)
    require_private(plan, target)
    return is_base_shift(plan, value) and is_separation(view(plan, watch), target, value)


def same_frequencies(plan, watch, numbers, others):
    """Tell whether a watch observes the same, equally often, for two assignments of private numbers."""
    require_watch(plan, watch)
    require_numbers(plan.modulus, plan.own_names(), numbers)
    require_numbers(plan.modulus, plan.own_names(), others)
    return all([total.at(numbers) == total.at(others) for total in learned(plan, watch).basis()])


def is_base_shift(plan, value):
    """Tell whether a value is a shift of private numbers and drawn names of a plan."""
    if not is_shift(plan.modulus, value):
        return False
    names = plan.own_names() + plan.drawn_names()
    return all([name in names for name in value])


def require_watch(plan, watch):
    """Raise InvalidWatch unless the value is a list of seats of the plan."""
    if not is_list(watch):
        raise InvalidWatch(None)
    hands = plan.hands()
    for position, seat in enumerate(watch):
        if not _is_seat(hands, len(plan), seat):
            raise InvalidWatch(position)


def require_private(plan, target):
    """Raise an error unless the target is a sum of private numbers of the plan."""
    require_sum_of(plan.modulus, target, plan.own_names())


def _heard_sums(plan, watch):
    """Return a dict from the heard names to their meanings."""
    return {name: plan.meaning(name) for name in heard(plan, watch)}


def _is_seat(hands, last, value):
    """Tell whether a value is a seat of one of the hands, up to the last moment."""
    if not isinstance(value, tuple) or len(value) != 3 or not is_known(value[0], hands):
        return False
    if not is_integer(value[1]) or not is_integer(value[2]):
        return False
    return 0 <= value[1] <= value[2] <= last
