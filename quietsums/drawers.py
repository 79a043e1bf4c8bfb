"""Drawers: which hands have to draw so that a ladder is the form of a part."""

from quietsums.checks import require_group
from quietsums.drawing import made_by_drawers
from quietsums.errors import InvalidGroup, TooMany
from quietsums.picking import is_part
from quietsums.reaching import first_bar

MOST_HANDS = 3
MOST_DOORS = 6


def drawing_bar(ladder, group):
    """Return why the ladder is not the form of a part in which only the group draws, or None."""
    require_group(group, ladder.doors.hands())
    if len(group) == 0:
        raise InvalidGroup(group)
    _require_few(ladder)
    return first_bar(ladder, sorted(group))


def made_by(ladder, group):
    """Return a part whose form is the ladder and in which only the group draws, or None."""
    if drawing_bar(ladder, group) is not None:
        return None
    return made_by_drawers(ladder, sorted(group))


def least_drawers(ladder):
    """Return the list of the groups that can draw alone and have no smaller part that can."""
    _require_few(ladder)
    found = []
    for group in ladder.doors.groups()[1:]:
        if not any([is_part(least, group) for least in found]) and first_bar(ladder, group) is None:
            found.append(group)
    return found


def _require_few(ladder):
    """Raise TooMany if the ladder has too many hands, or too many doors."""
    if len(ladder.doors.hands()) > MOST_HANDS:
        raise TooMany(MOST_HANDS)
    if len(ladder.doors.names()) > MOST_DOORS:
        raise TooMany(MOST_DOORS)
