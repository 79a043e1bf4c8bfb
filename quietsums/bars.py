"""Bars: why demands make a secret known; which entries do, and with which ones it stays secret."""

from quietsums.checks import is_integer, is_list, is_number, is_tuple_of, require_group
from quietsums.demands import least_ladder, least_space, require_entries
from quietsums.doors import require_door_sum
from quietsums.errors import TooMany
from quietsums.picking import all_groups, is_part
from quietsums.shifts import combination
from quietsums.sums import Sum

MOST_ENTRIES = 10


def bar(demands, group, target):
    """Return a bar for a secret, or None if it is not barred."""
    _require_secret(demands, group, target)
    if _is_of_all(demands, group):
        return [("all",)]
    if target.is_constant:
        return []
    reasons = _reasons(demands, group)
    if len(reasons) == 0:
        return None
    numbers = combination([_reason_sum(demands, kind, key) for kind, key in reasons], target)
    if numbers is None:
        return None
    return [(kind, key, number) for (kind, key), number in zip(reasons, numbers) if number != 0]


def is_bar(demands, group, target, value):
    """Tell whether a value is a bar for a secret."""
    _require_secret(demands, group, target)
    if not is_list(value):
        return False
    if _is_of_all(demands, group):
        return len(value) == 1 and is_tuple_of(value[0], 1) and value[0][0] == "all"
    reasons = _reasons(demands, group)
    rest = target
    for entry in value:
        if not _is_weighted(demands.doors.modulus, reasons, entry):
            return False
        rest = rest - _reason_sum(demands, entry[0], entry[1]) * entry[2]
    return rest.is_constant


def first_barred(demands, secrets):
    """Return the index of the first secret that is barred, or None."""
    require_entries(demands.doors, secrets)
    ladder = least_ladder(demands)
    for index, (group, target) in enumerate(secrets):
        if target in ladder.space(group):
            return index
    return None


def cores(demands, group, target):
    """Return the list of all cores of a secret, as sorted tuples, in the order of groups."""
    _require_few(demands)
    _require_secret(demands, group, target)
    found = []
    for indexes in _index_sets(demands):
        if not any([is_part(core, indexes) for core in found]) and target in least_space(demands, group, indexes):
            found.append(indexes)
    return found


def keeping_sets(demands, secrets):
    """Return the list of all keeping sets for some secrets, as sorted tuples, in the order of groups."""
    _require_few(demands)
    require_entries(demands.doors, secrets)
    targets = {tuple(sorted(group)): [] for group, _ in secrets}
    for group, target in secrets:
        targets[tuple(sorted(group))].append(target)
    found = []
    for indexes in reversed(_index_sets(demands)):
        if not any([is_part(indexes, kept) for kept in found]) and _are_kept(demands, targets, indexes):
            found.append(indexes)
    return list(reversed(found))


def implied(demands):
    """Return the ascending list of the indexes of the entries without which the least ladder is the same."""
    must = demands.must()
    found = []
    for index, (group, target) in enumerate(must):
        others = [at for at in range(len(must)) if at != index]
        # What a group knows, all greater groups know: so it is enough to ask this group.
        if target in least_space(demands, group, others):
            found.append(index)
    return found


def _require_secret(demands, group, target):
    """Raise an error unless the group and the target may be a secret."""
    require_group(group, demands.doors.hands())
    require_door_sum(demands.doors, target)


def _require_few(demands):
    """Raise TooMany if there are more entries than can be tried in all ways."""
    if len(demands.must()) > MOST_ENTRIES:
        raise TooMany(MOST_ENTRIES)


def _is_of_all(demands, group):
    return len(group) == len(demands.doors.hands())


def _reasons(demands, group):
    """Return the list of what may stand in a bar, without weights: tuples of a kind, and an index or a name."""
    holds = [("hold", index) for index in range(len(demands.always()))]
    owns = [("own", name) for name in demands.doors.held(group)]
    return holds + owns + [("must", index) for index, entry in enumerate(demands.must()) if is_part(entry[0], group)]


def _reason_sum(demands, kind, key):
    """Return the sum that stands behind a kind, and an index or a name."""
    if kind == "hold":
        return demands.always()[key]
    if kind == "must":
        return demands.must()[key][1]
    return Sum(demands.doors.modulus, {key: 1})


def _is_weighted(modulus, reasons, value):
    """Tell whether a value is a tuple of one of the reasons and a weight."""
    if not is_tuple_of(value, 3) or not is_number(modulus, value[2]):
        return False
    kind, key, _ = value
    return (is_integer(key) or isinstance(key, str)) and (kind, key) in reasons


def _index_sets(demands):
    """Return the list of all sets of indexes of entries, as sorted tuples, in the order of groups."""
    return all_groups(list(range(len(demands.must()))))


def _are_kept(demands, targets, indexes):
    """Tell whether the demands with only these entries bar none of the sums, which stand in a dict by groups."""
    for group, sums in targets.items():
        space = least_space(demands, group, indexes)
        if any([target in space for target in sums]):
            return False
    return True
