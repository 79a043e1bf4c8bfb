"""Gains: what each group knows beyond its smaller groups; the least and the greatest of two ladders."""

from quietsums.doors import require_same_doors
from quietsums.ladders import Ladder, given_sums, smaller_parts
from quietsums.spaces import Space


def gains(ladder, group):
    """Return the list of the sums of the basis of a group's space that the sums before do not span."""
    doors = ladder.doors
    space = Space(doors.modulus, given_sums(doors, ladder.relations.basis(), group))
    for smaller in smaller_parts(group):
        space = space.joined(ladder.space(smaller))
    found = []
    for total in ladder.space(group).basis():
        if total not in space:
            found.append(total)
            space = space.joined(Space(doors.modulus, [total]))
    return found


def either(one, other):
    """Return the least ladder that contains both."""
    require_same_doors(one.doors, other.doors)
    relations = one.relations.joined(other.relations)
    spaces = {group: space.joined(other.space(group)) for group, space in one.walk()}
    return Ladder(one.doors, relations, spaces)


def both(one, other):
    """Return the ladder of what two ladders share."""
    require_same_doors(one.doors, other.doors)
    relations = one.relations.shared(other.relations)
    spaces = {group: space.shared(other.space(group)) for group, space in one.walk()}
    return Ladder(one.doors, relations, spaces)
