"""Books: what each group may learn, and the first entry by which a plan is not quiet."""

from quietsums.checks import is_group, is_list, is_tuple_of
from quietsums.errors import InvalidBook
from quietsums.groups import listening
from quietsums.spaces import Space
from quietsums.sums import is_sum_of
from quietsums.watches import learned


def first_leak(plan, book):
    """Return the index of the first entry whose group learns more, and the first sum of it, or None."""
    require_book(plan.modulus, plan.hands(), plan.own_names(), book)
    return leak_of(plan, book)


def is_quiet(plan, book):
    """Tell whether no group of the book learns more than it may."""
    return first_leak(plan, book) is None


def leak_of(plan, book):
    """Return the first leak of a plan by a list of groups and sums, which need not be private numbers of the plan."""
    for index, (group, sums) in enumerate(book):
        allowed = Space(plan.modulus, sums)
        for total in learned(plan, listening(plan, group)).basis():
            if total not in allowed:
                return index, total
    return None


def require_book(modulus, hands, names, book):
    """Raise InvalidBook unless the value is a book for these hands and these private numbers."""
    if not is_list(book):
        raise InvalidBook(None)
    private = {name: True for name in names}
    for position, entry in enumerate(book):
        if not _is_entry(modulus, hands, private, entry):
            raise InvalidBook(position)


def _is_entry(modulus, hands, private, value):
    """Tell whether a value is a tuple of a group of these hands and a list of sums of these private numbers."""
    if not is_tuple_of(value, 2) or not is_group(value[0], hands) or not is_list(value[1]):
        return False
    return all([is_sum_of(modulus, total, private) for total in value[1]])
