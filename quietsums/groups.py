"""Groups of hands that listen from the first moment to the last one."""

from quietsums.checks import require_group
from quietsums.picking import all_groups, is_part
from quietsums.watches import learns, require_private


def listening(plan, group):
    """Return the watch of a group that listens, with sorted hands."""
    require_group(group, plan.hands())
    return [(hand, 0, len(plan)) for hand in sorted(group)]


def least_groups(plan, target):
    """Return the list of the groups that learn the target and have no smaller part that does."""
    require_private(plan, target)
    found = []
    for group in all_groups(plan.hands()):
        if not any([is_part(least, group) for least in found]) and _group_learns(plan, group, target):
            found.append(group)
    return found


def blind_groups(plan, target):
    """Return the list of the groups that do not learn the target, while every greater one does."""
    require_private(plan, target)
    found = []
    for group in reversed(all_groups(plan.hands())):
        if not any([is_part(group, blind) for blind in found]) and not _group_learns(plan, group, target):
            found.append(group)
    return list(reversed(found))


def _group_learns(plan, group, target):
    return learns(plan, listening(plan, group), target)
