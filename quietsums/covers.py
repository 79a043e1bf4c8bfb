"""Fewest seats that learn a sum, and covers, which show that no few seats do."""

from quietsums.checks import is_integer, is_list
from quietsums.errors import InvalidCount, TooMany
from quietsums.picking import picked
from quietsums.shifts import is_unmoved, moved, separation
from quietsums.watches import is_base_shift, require_private, require_watch, view

MOST_SEATS = 24
MOST_AT_ONCE = 3


class Search:
    """The views of some seats, and the shifts found so far that hide a target from some of them.

    A set of seats is an integer here, in which the bits with their indexes are 1.
    """

    def __init__(self, plan, seats, target):
        self._target = target
        self._single = [view(plan, [seat]) for seat in seats]
        self._kept = {(): view(plan, [])}
        self._shifts = []
        self._hidden = []

    def learn(self, indexes):
        """Tell whether the seats with these indexes learn the target; if not, keep a shift that hides it."""
        if _is_hidden(_set_of(indexes), self._hidden):
            return False
        shift = separation(self._together(indexes), self._target)
        if shift is None:
            return True
        self._shifts.append(shift)
        self._hidden.append(_unmoved_seats(self._single, shift))
        return False

    def thin_shifts(self, wanted):
        """Return shifts that hide the wanted sets, which all are hidden, without any that is not needed."""
        many = [len([seats for seats in self._hidden if seats & mask == mask]) for mask in wanted]
        kept = []
        for shift, seats in zip(self._shifts, self._hidden):
            places = [place for place, mask in enumerate(wanted) if seats & mask == mask]
            if all([many[place] > 1 for place in places]):
                for place in places:
                    many[place] -= 1
            else:
                kept.append(shift)
        return kept

    def _together(self, indexes):
        if indexes in self._kept:
            return self._kept[indexes]
        space = self._together(indexes[:-1]).joined(self._single[indexes[-1]])
        # The greatest sets are asked for once only, and they are too many to keep them all.
        if len(indexes) < MOST_AT_ONCE:
            self._kept[indexes] = space
        return space


def fewest_seats(plan, seats, target):
    """Return the sorted indexes of the fewest seats, at most three, that learn the target, or None."""
    _require_seats(plan, seats)
    require_private(plan, target)
    search = Search(plan, seats, target)
    for many in range(MOST_AT_ONCE + 1):
        for indexes in picked(list(range(len(seats))), many):
            if search.learn(indexes):
                return list(indexes)
    return None


def cover(plan, seats, target, many):
    """Return a thin list of shifts that hide the target from all sets of so many seats, or None."""
    _require_seats(plan, seats)
    require_private(plan, target)
    _require_many(many)
    search = Search(plan, seats, target)
    index_sets = _index_sets(seats, many)
    for indexes in index_sets:
        if search.learn(indexes):
            return None
    return search.thin_shifts([_set_of(indexes) for indexes in index_sets])


def is_cover(plan, seats, target, many, value):
    """Tell whether a value is a list of shifts that hide the target from all sets of so many seats."""
    _require_seats(plan, seats)
    require_private(plan, target)
    _require_many(many)
    if not is_list(value) or not all([is_base_shift(plan, shift) for shift in value]):
        return False
    told = view(plan, [])
    if not all([moved(target, shift) != 0 and is_unmoved(told, shift) for shift in value]):
        return False
    single = [view(plan, [seat]) for seat in seats]
    hidden = [_unmoved_seats(single, shift) for shift in value]
    return all([_is_hidden(_set_of(indexes), hidden) for indexes in _index_sets(seats, many)])


def _require_seats(plan, seats):
    """Raise an error unless the value is a list of seats that is not too long."""
    require_watch(plan, seats)
    if len(seats) > MOST_SEATS:
        raise TooMany(MOST_SEATS)


def _require_many(many):
    """Raise InvalidCount unless the value is a count of seats that a cover may be for."""
    if not is_integer(many) or not 0 <= many <= MOST_AT_ONCE:
        raise InvalidCount(many)


def _index_sets(seats, many):
    """Return all sets of so many indexes, or the set of all if there are fewer, as sorted tuples."""
    return picked(list(range(len(seats))), min(many, len(seats)))


def _set_of(indexes):
    """Return the integer in which the bits with these indexes are 1."""
    return sum([1 << at for at in indexes])


def _unmoved_seats(spaces, shift):
    """Return the set of the seats of which a shift moves nothing that they see."""
    return _set_of([at for at, space in enumerate(spaces) if is_unmoved(space, shift)])


def _is_hidden(mask, hidden):
    """Tell whether some set of hidden seats contains all seats of a set."""
    return any([seats & mask == mask for seats in hidden])
