"""Ladders: relations between doors, and what each group knows of them."""

from quietsums.checks import is_name, require_group
from quietsums.doors import Doors
from quietsums.errors import InvalidGroup, InvalidName, InvalidRelations, InvalidSpaces, NameTaken, TiedIns
from quietsums.picking import all_groups
from quietsums.spaces import Relations, Space
from quietsums.sums import Sum


class Ladder:
    """Doors, relations, and for each group a space that contains what it must. It never changes."""

    def __init__(self, doors, relations, spaces):
        if not isinstance(relations, Relations) or not _is_of_doors(doors, relations):
            raise InvalidRelations(relations)
        require_untied(doors, relations)
        if not _has_groups(doors, spaces):
            raise InvalidSpaces(None)
        for group in doors.groups():
            if not _may_be_known(doors, relations, spaces, group):
                raise InvalidSpaces(group)
        self._doors = doors
        self._relations = relations
        self._spaces = {group: spaces[group] for group in doors.groups()}

    @property
    def doors(self):
        """The doors."""
        return self._doors

    @property
    def relations(self):
        """The relations."""
        return self._relations

    def space(self, group):
        """Return the space of a group."""
        require_group(group, self._doors.hands())
        return self._spaces[tuple(sorted(group))]

    def walk(self):
        """Yield the tuples of a group and its space, in the order of groups."""
        for group, space in self._spaces.items():
            yield group, space

    def as_one(self, hands, name):
        """Return the ladder in which these hands sit together as one hand with this name."""
        require_group(hands, self._doors.hands())
        if len(hands) == 0:
            raise InvalidGroup(hands)
        if not is_name(name):
            raise InvalidName(name)
        rest = [hand for hand in self._doors.hands() if hand not in hands]
        if name in rest or name in self._doors:
            raise NameTaken(name)
        doors = _doors_as_one(self._doors, rest, name)
        spaces = {}
        for group in doors.groups():
            alone = [hand for hand in group if hand in rest]
            spaces[group] = self.space(alone if len(alone) == len(group) else alone + list(hands))
        return Ladder(doors, self._relations, spaces)

    def __eq__(self, other):
        return (isinstance(other, Ladder) and self._doors == other._doors
                and self._relations == other._relations and self._spaces == other._spaces)

    def __repr__(self):
        return f"Ladder({self._doors!r}, {self._relations!r}, {self._spaces!r})"


def require_untied(doors, relations):
    """Raise TiedIns if some of the relations contains ins alone."""
    tied = relations.without(doors.outs()).basis()
    if len(tied) > 0:
        raise TiedIns(tied[0])


def given_sums(doors, relations, group):
    """Return a list of sums that a group knows in any case: a list of relations, and the doors that it holds."""
    return relations + [Sum(doors.modulus, {name: 1}) for name in doors.held(group)]


def smaller_parts(group):
    """Return the list of all smaller groups within a group, in the order of groups."""
    return all_groups(group)[:-1]


def _is_of_doors(doors, spanned):
    """Tell whether a Space or Relations contain door sums alone, apart from constants."""
    return spanned.modulus == doors.modulus and all([name in doors for name in spanned.names()])


def _has_groups(doors, value):
    """Tell whether a value is a dict with all groups as its keys."""
    groups = doors.groups()
    return isinstance(value, dict) and len(value) == len(groups) and all([group in value for group in groups])


def _may_be_known(doors, relations, spaces, group):
    """Tell whether the space of a group is as it must be, if those of all groups in front of it are."""
    space = spaces[group]
    if not isinstance(space, Space) or not _is_of_doors(doors, space):
        return False
    if not all([total in space for total in given_sums(doors, relations.basis(), group)]):
        return False
    return all([spaces[smaller].within(space) for smaller in smaller_parts(group)])


def _doors_as_one(doors, rest, name):
    """Return the doors in which all hands but the rest are replaced by one with this name."""
    ins = {door: _holders_as_one(doors.holders(door), rest, name) for door in doors.ins()}
    outs = {door: _holders_as_one(doors.holders(door), rest, name) for door in doors.outs()}
    return Doors(doors.modulus, rest + [name], ins, outs)


def _holders_as_one(holders, rest, name):
    alone = [hand for hand in holders if hand in rest]
    return alone if len(alone) == len(holders) else alone + [name]
