"""What parts and ladders let know around them: forms, differences, plans that tell two parts apart, joined ones."""

from quietsums.checks import is_group, is_list, is_tuple_of, require_group
from quietsums.courses import names_of_kind
from quietsums.doors import can_be_joined, inner_names, joined_doors
from quietsums.doors import require_door_sum, require_same_doors, require_same_hands
from quietsums.errors import InvalidGroup, InvalidHands, InvalidStep, MissingName, NameTaken, OtherDoors
from quietsums.forms import ladder_of, put_meanings
from quietsums.ladders import Ladder
from quietsums.outsiders import hands_around, hearing_steps, seats_inside, steps_ahead, using_steps
from quietsums.parts import Part
from quietsums.runs import wants
from quietsums.shifts import is_named_combination, is_separation, named_combination, separation
from quietsums.spaces import Space
from quietsums.sums import is_sum_of
from quietsums.watches import learns


def form_of(part):
    """Return the form of a part."""
    seen = {group: list(_seen_sums(part, group).values()) for group in part.doors.groups()}
    return ladder_of(part.doors, _door_meanings(part), seen)


def known_reason(part, group, target):
    """Return multiples of seen names that leave a constant of the target's meaning, or None."""
    _require_question(part, group, target)
    return named_combination(_seen_sums(part, group), _target_meaning(part, target))


def known_shift(part, group, target):
    """Return a shift that moves the target's meaning and nothing that the group sees, or None."""
    _require_question(part, group, target)
    return separation(_seen_space(part, group), _target_meaning(part, target))


def is_known_reason(part, group, target, value):
    """Tell whether a value is a reason why a group knows the target."""
    _require_question(part, group, target)
    return is_named_combination(_seen_sums(part, group), _target_meaning(part, target), value)


def is_known_shift(part, group, target, value):
    """Tell whether a value is a shift of ins and drawn names that hides the target from a group."""
    _require_question(part, group, target)
    if not is_separation(_seen_space(part, group), _target_meaning(part, target), value):
        return False
    names = part.doors.ins() + names_of_kind(part.steps(), "draw")
    return all([name in names for name in value])


def difference(one, other):
    """Return the first difference of two ladders over equal doors, or None."""
    require_same_doors(one.doors, other.doors)
    for group, space in one.walk():
        target = _first_lone_sum(space, other.space(group))
        if target is not None:
            return "hear", group, target
    target = _first_lone_sum(one.relations, other.relations)
    if target is not None:
        return "hold", target
    return None


def is_difference(one, other, value):
    """Tell whether a value names a sum that is known, or holding, in exactly one of two ladders."""
    require_same_doors(one.doors, other.doors)
    if is_tuple_of(value, 2) and value[0] == "hold":
        return (value[1] in one.relations) != (value[1] in other.relations)
    if not is_tuple_of(value, 3) or value[0] != "hear" or value[1] not in one.doors.groups():
        return False
    return (value[2] in one.space(value[1])) != (value[2] in other.space(value[1]))


def may_stand(one, other, bad, good):
    """Tell whether the one ladder lets bad groups know no more, and good groups and wants no less."""
    require_same_doors(one.doors, other.doors)
    _require_groups(one.doors, bad)
    _require_groups(one.doors, good)
    if not all([one.space(group).within(other.space(group)) for group in bad]):
        return False
    if not all([other.space(group).within(one.space(group)) for group in good]):
        return False
    return other.relations.within(one.relations)


def hearing(part, group, target):
    """Return the plan that hears a door sum around a part, its watch for a group, and the sum SECRET."""
    _require_question(part, group, target)
    hands = hands_around(part.doors)
    ahead = steps_ahead(part.doors, hands[-1])
    behind, secret = hearing_steps(part.doors, hands[-1], part.names(), target)
    return part.placed(hands, ahead, behind), seats_inside(part, ahead, group), secret


def using(part, target):
    """Return the plan that uses a door sum around a part, and the position of its "want"."""
    require_door_sum(part.doors, target)
    hands = hands_around(part.doors)
    ahead = steps_ahead(part.doors, hands[-1])
    plan = part.placed(hands, ahead, using_steps(part.doors, hands[-1], part.names(), target))
    return plan, len(plan) - 1


def parting(part, other):
    """Return what stands around two parts and tells them apart, or None."""
    found = difference(form_of(part), form_of(other))
    if found is None:
        return None
    hands = hands_around(part.doors)
    ahead = steps_ahead(part.doors, hands[-1])
    taken = part.names() + other.names()
    if found[0] == "hold":
        return "hold", hands, ahead, using_steps(part.doors, hands[-1], taken, found[1])
    behind, secret = hearing_steps(part.doors, hands[-1], taken, found[2])
    return "hear", hands, ahead, behind, found[1], secret


def is_parting(part, other, value):
    """Tell whether a value stands around two parts and tells them apart."""
    require_same_doors(part.doors, other.doors)
    if is_tuple_of(value, 6) and value[0] == "hear":
        _, hands, ahead, behind, group, target = value
        return _is_heard_apart(part, other, hands, ahead, behind, group, target)
    if is_tuple_of(value, 4) and value[0] == "hold":
        _, hands, ahead, behind = value
        return _is_wanted_apart(part, other, hands, ahead, behind)
    return False


def joined(one, other):
    """Return the ladder, or the part, in which the first of two is followed by the second."""
    require_same_hands(one.doors, other.doors)
    if isinstance(one, Part):
        told = other.told_names()
        _require_joinable(one, other, one.names(), other.names(), [name for name in one.told_names() if name in told])
        return Part(joined_doors(one.doors, other.doors), one.steps() + other.steps())
    _require_joinable(one, other, one.doors.names(), other.doors.names(), [])
    doors = joined_doors(one.doors, other.doors)
    inner = inner_names(one.doors, other.doors)
    relations = one.relations.joined(other.relations).without(inner)
    spaces = {group: space.joined(other.space(group)).without(inner) for group, space in one.walk()}
    return Ladder(doors, relations, spaces)


def _door_meanings(part):
    """Return a dict from the doors of a part to their meanings."""
    return {name: part.meaning(name) for name in part.doors.names()}


def _target_meaning(part, target):
    """Return the meaning of a door sum."""
    return put_meanings(target, _door_meanings(part))


def _seen_sums(part, group):
    """Return a dict from the names that a group sees to their meanings."""
    return {name: part.meaning(name) for name in part.seen(group)}


def _seen_space(part, group):
    return Space(part.doors.modulus, list(_seen_sums(part, group).values()))


def _require_question(part, group, target):
    """Raise an error unless the group and the target are a group and a door sum of a part."""
    require_group(group, part.doors.hands())
    require_door_sum(part.doors, target)


def _require_groups(doors, value):
    """Raise InvalidGroup unless the value is a list of groups."""
    if not is_list(value):
        raise InvalidGroup(value)
    for group in value:
        require_group(group, doors.hands())


def _first_lone_sum(one, other):
    """Return the first sum of the one's basis that the other lacks, or else of the other's, or None."""
    lone = [total for total in one.basis() if total not in other]
    lone = lone + [total for total in other.basis() if total not in one]
    return lone[0] if len(lone) > 0 else None


def _placed_or_none(part, hands, ahead, behind):
    """Return the plan in which a part is placed, or None if it cannot be placed so."""
    try:
        return part.placed(hands, ahead, behind)
    except (InvalidHands, InvalidStep, MissingName, NameTaken):
        return None


def _is_heard_apart(part, other, hands, ahead, behind, group, target):
    """Tell whether both parts can be placed, and the group learns the target during exactly one of them."""
    plan = _placed_or_none(part, hands, ahead, behind)
    other_plan = _placed_or_none(other, hands, ahead, behind)
    if plan is None or other_plan is None or not is_group(group, part.doors.hands()):
        return False
    # A part owns nothing. So the private numbers are the same in both plans.
    if not is_sum_of(plan.modulus, target, plan.own_names()):
        return False
    is_learned = learns(plan, seats_inside(part, ahead, group), target)
    return is_learned != learns(other_plan, seats_inside(other, ahead, group), target)


def _is_wanted_apart(part, other, hands, ahead, behind):
    """Tell whether both parts can be placed, and some "want" behind is true behind exactly one of them."""
    plan = _placed_or_none(part, hands, ahead, behind)
    other_plan = _placed_or_none(other, hands, ahead, behind)
    if plan is None or other_plan is None:
        return False
    # A part wants nothing, and a "want" ahead is as true in the one plan as in the other.
    return [is_true for _, is_true in wants(plan)] != [is_true for _, is_true in wants(other_plan)]


def _require_joinable(one, other, names, others, told):
    """Raise OtherDoors if a name of both bars that they are joined, also one of those that both tell."""
    for name in sorted(set(names) & set(others)):
        if name in told or not can_be_joined(one.doors, other.doors, name):
            raise OtherDoors(name)
