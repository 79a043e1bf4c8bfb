"""Demands: which group must come to know which sum; the least ladder that fulfils them."""

from quietsums.checks import is_group, is_list, is_tuple_of
from quietsums.doors import is_door_sum, require_same_doors
from quietsums.errors import InvalidDemand, InvalidSums
from quietsums.gaining import gains
from quietsums.ladders import Ladder, given_sums, require_untied
from quietsums.picking import is_part
from quietsums.spaces import Relations, Space


class Demands:
    """Doors, relations, and tuples of a group and a door sum that it must come to know. They never change."""

    def __init__(self, doors, relations, must):
        _require_door_sums(doors, relations)
        require_untied(doors, Relations(doors.modulus, relations))
        require_entries(doors, must)
        self._doors = doors
        self._always = list(relations)
        self._must = [(tuple(sorted(group)), target) for group, target in must]

    @classmethod
    def of(cls, ladder):
        """Return the demands that have a ladder as their least one: its relations, and what each group gains."""
        groups = ladder.doors.groups()[:-1]
        must = [(group, target) for group in groups for target in gains(ladder, group)]
        return cls(ladder.doors, ladder.relations.basis(), must)

    @property
    def doors(self):
        """The doors."""
        return self._doors

    def always(self):
        """Return the list of the relations."""
        return list(self._always)

    def must(self):
        """Return the list of the tuples of a group and the sum that it must come to know."""
        return list(self._must)

    def and_also(self, *must):
        """Return the demands with further entries."""
        return Demands(self._doors, self._always, self._must + list(must))

    def __eq__(self, other):
        return (isinstance(other, Demands) and self._doors == other._doors
                and self._always == other._always and self._must == other._must)


def least_ladder(demands):
    """Return the least ladder of demands."""
    doors = demands.doors
    indexes = list(range(len(demands.must())))
    spaces = {group: least_space(demands, group, indexes) for group in doors.groups()}
    return Ladder(doors, Relations(doors.modulus, demands.always()), spaces)


def fulfils(ladder, demands):
    """Tell whether a ladder fulfils demands."""
    require_same_doors(ladder.doors, demands.doors)
    if not all([total in ladder.relations for total in demands.always()]):
        return False
    return all([target in ladder.space(group) for group, target in demands.must()])


def least_space(demands, group, indexes):
    """Return the space of a group in the least ladder of the demands with only these entries."""
    doors = demands.doors
    if len(group) == len(doors.hands()):
        return Space.everything(doors.modulus, doors.names())
    sums = given_sums(doors, demands.always(), group)
    must = demands.must()
    for index in indexes:
        if is_part(must[index][0], group):
            sums.append(must[index][1])
    return Space(doors.modulus, sums)


def require_entries(doors, value):
    """Raise InvalidDemand unless the value is a list of tuples of a group and a door sum."""
    if not is_list(value):
        raise InvalidDemand(None)
    for position, entry in enumerate(value):
        if not is_tuple_of(entry, 2) or not is_group(entry[0], doors.hands()) or not is_door_sum(doors, entry[1]):
            raise InvalidDemand(position)


def _require_door_sums(doors, value):
    """Raise InvalidSums unless the value is a list of door sums."""
    if not is_list(value):
        raise InvalidSums(None)
    for position, total in enumerate(value):
        if not is_door_sum(doors, total):
            raise InvalidSums(position)
