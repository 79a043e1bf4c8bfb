"""Doors: the names by which a part hangs together with what is around it, and who holds them."""

from quietsums.checks import is_group, is_known, is_name, require_group, require_hands, require_modulus
from quietsums.errors import InvalidDoors, OtherDoors, TooMany, UnknownName
from quietsums.picking import all_groups
from quietsums.sums import is_sum_of, require_sum_of

MOST_HANDS = 4
MOST_DOORS = 10


class Doors:
    """A modulus, hands, ins and outs with their holders. They never change."""

    def __init__(self, modulus, hands, ins, outs):
        require_modulus(modulus)
        require_hands(hands, MOST_HANDS)
        if not _are_held(ins, hands):
            raise InvalidDoors(ins)
        if not _are_held(outs, hands) or any([name in ins for name in outs]):
            raise InvalidDoors(outs)
        if len(ins) + len(outs) > MOST_DOORS:
            raise TooMany(MOST_DOORS)
        self._modulus = modulus
        self._hands = sorted(hands)
        self._ins = {name: sorted(ins[name]) for name in sorted(ins)}
        self._outs = {name: sorted(outs[name]) for name in sorted(outs)}

    @property
    def modulus(self):
        """The modulus."""
        return self._modulus

    def hands(self):
        """Return the sorted list of the hands."""
        return list(self._hands)

    def ins(self):
        """Return the sorted list of the ins."""
        return list(self._ins)

    def outs(self):
        """Return the sorted list of the outs."""
        return list(self._outs)

    def names(self):
        """Return the sorted list of all doors."""
        return sorted(self.ins() + self.outs())

    def holders(self, name):
        """Return the sorted list of the holders of a door."""
        if is_known(name, self._ins):
            return list(self._ins[name])
        if is_known(name, self._outs):
            return list(self._outs[name])
        raise UnknownName(name)

    def held(self, group):
        """Return the sorted list of the doors of which a hand of the group is a holder."""
        require_group(group, self._hands)
        return [name for name in self.names() if any([hand in group for hand in self.holders(name)])]

    def groups(self):
        """Return the list of all groups, in the order of groups."""
        return all_groups(self._hands)

    def __contains__(self, name):
        return is_known(name, self._ins) or is_known(name, self._outs)

    def __eq__(self, other):
        return (isinstance(other, Doors) and self._modulus == other._modulus and self._hands == other._hands
                and self._ins == other._ins and self._outs == other._outs)

    def __repr__(self):
        return f"Doors({self._modulus}, {self._hands!r}, {self._ins!r}, {self._outs!r})"


def is_door_sum(doors, value):
    """Tell whether a value is a door sum."""
    return is_sum_of(doors.modulus, value, doors.names())


def require_door_sum(doors, target):
    """Raise an error unless the value is a door sum."""
    require_sum_of(doors.modulus, target, doors.names())


def require_same_doors(one, other):
    """Raise OtherDoors unless both doors are equal."""
    require_same_hands(one, other)
    for name in sorted(set(one.names() + other.names())):
        if not _is_same_door(one, other, name):
            raise OtherDoors(name)


def require_same_hands(one, other):
    """Raise OtherDoors unless both doors have the same modulus and the same hands."""
    if one.modulus != other.modulus or one.hands() != other.hands():
        raise OtherDoors(None)


def joined_doors(one, other):
    """Return the doors of what is joined, if the first is followed by the second."""
    inner = inner_names(one, other)
    ins = [name for name in other.ins() if name not in inner]
    outs = [name for name in one.outs() if name not in inner]
    return Doors(one.modulus, one.hands(), {**_with_holders(one, one.ins()), **_with_holders(other, ins)},
                 {**_with_holders(one, outs), **_with_holders(other, other.outs())})


def inner_names(one, other):
    """Return the sorted list of the outs of the first that are ins of the second."""
    ins = other.ins()
    return [name for name in one.outs() if name in ins]


def can_be_joined(one, other, name):
    """Tell whether a name is a door of both that they may share if the first is followed by the second."""
    if name not in one or name not in other:
        return False
    return one.holders(name) == other.holders(name) and name in other.ins()


def _with_holders(doors, names):
    return {name: doors.holders(name) for name in names}


def _are_held(value, hands):
    """Tell whether a value is a dict from NAMEs to lists of different ones of the hands that are not empty."""
    if not isinstance(value, dict):
        return False
    return all([is_name(name) and is_group(held, hands) and len(held) > 0 for name, held in value.items()])


def _is_same_door(one, other, name):
    """Tell whether a name is a door of the same kind with the same holders of both."""
    if name not in one or name not in other:
        return False
    return one.holders(name) == other.holders(name) and (name in one.ins()) == (name in other.ins())
