"""Deals: numbers that an unheard dealer hands to hands or tells."""

from quietsums.checks import is_known, is_list, is_name, is_tuple_of
from quietsums.errors import InvalidDeal, InvalidNames, MissingName
from quietsums.forms import ladder_of
from quietsums.sums import Sum, is_sum_of


class Deal:
    """Doors, drawn names, and numbers: tuples of a name, a hand or None, and a sum. It never changes."""

    def __init__(self, doors, drawn, numbers):
        _require_drawn(doors, drawn)
        _require_numbers(doors, drawn, numbers)
        _require_outs(doors, numbers)
        self._doors = doors
        self._drawn = list(drawn)
        self._numbers = list(numbers)
        self._steps_needed = steps_for(len(doors.hands()), len(numbers), len(drawn))

    @property
    def doors(self):
        """The doors."""
        return self._doors

    @property
    def steps_needed(self):
        """The number of steps that are enough to make a part from the deal."""
        return self._steps_needed

    def drawn(self):
        """Return the list of the drawn names."""
        return list(self._drawn)

    def numbers(self):
        """Return the list of the tuples of a name, a hand or None, and a sum."""
        return list(self._numbers)

    def form(self):
        """Return the form: what always holds between doors, and what each group knows of them."""
        meanings = _own_meanings(self._doors, self._doors.ins())
        for name, _, total in self._numbers:
            meanings[name] = total
        seen = {group: self._seen_sums(group) for group in self._doors.groups()}
        return ladder_of(self._doors, meanings, seen)

    def _seen_sums(self, group):
        held = self._doors.held(group)
        ins = _own_meanings(self._doors, [name for name in self._doors.ins() if name in held])
        return list(ins.values()) + [total for _, hand, total in self._numbers if hand is None or hand in group]

    def __eq__(self, other):
        return (isinstance(other, Deal) and self._doors == other._doors
                and self._drawn == other._drawn and self._numbers == other._numbers)


def steps_for(hands, numbers, drawn):
    """Return how many steps are enough for so many hands to hand over so many numbers with so many drawn names."""
    return hands * drawn + numbers * (hands * hands + hands + 1)


def _own_meanings(doors, names):
    return {name: Sum(doors.modulus, {name: 1}) for name in names}


def _require_drawn(doors, drawn):
    """Raise InvalidNames unless the value is a list of different NAMEs that are no doors."""
    if not is_list(drawn):
        raise InvalidNames(None)
    for position, name in enumerate(drawn):
        if not is_name(name) or name in doors or name in drawn[:position]:
            raise InvalidNames(position)


def _require_numbers(doors, drawn, numbers):
    """Raise InvalidDeal unless the value is a list of numbers that may stand in a deal."""
    if not is_list(numbers):
        raise InvalidDeal(None)
    barred = {name: True for name in doors.ins() + list(drawn)}
    name_sums = {}
    for position, number in enumerate(numbers):
        if not _is_number(doors, barred, number):
            raise InvalidDeal(position)
        name, _, total = number
        if name_sums.setdefault(name, total) != total:
            raise InvalidDeal(position)


def _is_number(doors, bases, value):
    """Tell whether a value is a tuple of a name that is no base, a hand or None, and a sum of bases."""
    if not is_tuple_of(value, 3):
        return False
    name, hand, total = value
    if not is_name(name) or name in bases:
        return False
    if hand is not None and not is_known(hand, doors.hands()):
        return False
    return is_sum_of(doors.modulus, total, bases)


def _require_outs(doors, numbers):
    """Raise MissingName unless each holder of an out is handed it."""
    handed = {(name, hand): True for name, hand, _ in numbers}
    for name in doors.outs():
        for hand in doors.holders(name):
            if (name, hand) not in handed:
                raise MissingName(name, hand)
