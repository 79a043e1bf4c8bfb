"""Groups of hands that listen from the first moment to the last one."""

from quietsums.checks import is_group
from quietsums.errors import InvalidGroup
from quietsums.picking import all_groups
from quietsums.watches import learns, require_private


def listening(plan, group):
    """Return the watch of a group that listens, with sorted hands."""
    if not is_group(group, plan.hands()):
        raise InvalidGroup(group)
    return [(hand, 0, len(plan)) for hand in sorted(group)]


def least_groups(plan, target):
    """Return the list of the groups that learn the target and have no smaller part that does."""
    require_private(plan, target)
    found = []
    for group in all_groups(plan.hands()):
        if not any([_is_part(least, group) for least in found]) and _group_learns(plan, group, target):
            found.append(group)
    return found


def blind_groups(plan, target):
    """Return the list of the groups that do not learn the target, while every greater one does."""
    require_private(plan, target)
    found = []
    for group in reversed(all_groups(plan.hands())):
        if not any([_is_part(group, blind) for blind in found]) and not _group_learns(plan, group, target):
            found.append(group)
    return list(reversed(found))


def _group_learns(plan, group, target):
    return learns(plan, listening(plan, group), target)


def _is_part(group, greater):
    return all([hand in greater for hand in group])
