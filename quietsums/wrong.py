"""Wrong sends: what becomes of copies, whether a group notices it, and which errors nobody in it notices."""

from quietsums.checks import is_integer, is_known, is_list, is_number, is_tuple_of, require_group
from quietsums.copies import Copies, amount
from quietsums.errors import InvalidError, InvalidStep, MissingName, UnknownHand, UnknownName
from quietsums.rows import CONSTANT, echelon, marked, multiples, rows_behind
from quietsums.shifts import moved
from quietsums.sums import Sum
from quietsums.watches import is_base_shift


def copy_of(plan, error, hand, name):
    """Return the sum of base names that a hand has as its copy of a name."""
    _require_error(plan, error)
    if not is_known(hand, plan.hands()):
        raise UnknownHand(hand)
    meaning = plan.meaning(name)
    held = Copies(plan).held(hand)
    if name not in held:
        raise MissingName(name, hand)
    return meaning + Sum(plan.modulus, {}, amount(plan.modulus, held[name], error))


def heard_of(plan, error, name):
    """Return the sum of base names that is heard of a told name."""
    _require_error(plan, error)
    told = Copies(plan).heard()
    if not is_known(name, told):
        raise UnknownName(name)
    return plan.meaning(name) + Sum(plan.modulus, {}, amount(plan.modulus, told[name], error))


def check(plan, error, group):
    """Return multiples of copies of a group that add up to another number than without the error, or None."""
    _require_question(plan, error, group)
    observed = _observed(plan, group)
    rows = [_row_with_change(plan, error, name, row) for _, name, row in observed]
    numbers = multiples(plan.modulus, rows, {CONSTANT: 1})
    if numbers is None:
        return None
    return [(hand, name, number) for (hand, name, _), number in zip(observed, numbers) if number != 0]


def explanation(plan, error, group):
    """Return a shift of base names that moves all that a group has and hears as the error changes it, or None."""
    _require_question(plan, error, group)
    rows = [_row_with_change(plan, error, name, row) for _, name, row in _observed(plan, group)]
    basis = echelon(plan.modulus, rows)
    if CONSTANT in basis:
        return None
    # Only leading names are moved. None of them is in another row. So each makes for the change of its row alone.
    return {name: row[CONSTANT] for name, row in basis.items() if CONSTANT in row}


def is_check(plan, error, group, value):
    """Tell whether a value is such a list of multiples of copies."""
    _require_question(plan, error, group)
    if not is_list(value):
        return False
    observed = {(hand, name): row for hand, name, row in _observed(plan, group)}
    total = Sum(plan.modulus, {})
    change = 0
    for entry in value:
        if not _is_weighted(plan.modulus, observed, entry):
            return False
        hand, name, weight = entry
        total = total + plan.meaning(name) * weight
        change += amount(plan.modulus, observed[(hand, name)], error) * weight
    return total.is_constant and change % plan.modulus != 0


def is_explanation(plan, error, group, value):
    """Tell whether a value is such a shift of base names."""
    _require_question(plan, error, group)
    if not is_base_shift(plan, value):
        return False
    return all([moved(plan.meaning(name), value) == amount(plan.modulus, row, error)
                for _, name, row in _observed(plan, group)])


def unnoticed(plan, positions, group):
    """Return the basis of the errors at some positions that a group does not notice."""
    _require_positions(plan, positions)
    require_group(group, plan.hands())
    ties = echelon(plan.modulus, _ties(plan, positions, group))
    found = []
    for first in sorted(positions):
        if -first not in ties:
            error = {first: 1}
            # The ties are led by the last positions. So all that this one needs lie behind it.
            for lead in reversed(list(ties)):
                if -first in ties[lead]:
                    error[-lead] = -ties[lead][-first] % plan.modulus
            found.append(error)
    return found


def _require_error(plan, error):
    """Raise InvalidError unless the value is a dict from positions of sends to numbers other than 0."""
    if not isinstance(error, dict):
        raise InvalidError(error)
    steps = plan.steps()
    for position, number in error.items():
        if not _is_sending(steps, position) or not is_number(plan.modulus, number) or number == 0:
            raise InvalidError(error)


def _require_question(plan, error, group):
    _require_error(plan, error)
    require_group(group, plan.hands())


def _require_positions(plan, positions):
    """Raise InvalidStep unless the value is a list of different positions of sends."""
    if not is_list(positions):
        raise InvalidStep(None)
    steps = plan.steps()
    for at, position in enumerate(positions):
        if not _is_sending(steps, position) or position in positions[:at]:
            raise InvalidStep(position)


def _is_sending(steps, position):
    """Tell whether a value is the position of a "send" or a "tell"."""
    return is_integer(position) and 0 <= position < len(steps) and steps[position][0] in ("send", "tell")


def _observed(plan, group):
    """Return a list of tuples: a hand of the group or None, a name that it has or that is heard, and the row of it."""
    copies = Copies(plan)
    had = [(hand, name, row) for hand in sorted(group) for name, row in copies.held(hand).items()]
    return had + [(None, name, row) for name, row in copies.heard().items()]


def _row_with_change(plan, error, name, row):
    """Return the row of the meaning of a name, with the change of a copy by the error as its constant."""
    change = amount(plan.modulus, row, error)
    return {**plan.meaning(name).weights(), CONSTANT: change}


def _is_weighted(modulus, observed, value):
    """Tell whether a value is a tuple of a hand or None, a name of it that is observed, and a number other than 0."""
    if not is_tuple_of(value, 3) or not is_number(modulus, value[2]) or value[2] == 0:
        return False
    hand, name, _ = value
    return (hand is None or isinstance(hand, str)) and isinstance(name, str) and (hand, name) in observed


def _ties(plan, positions, group):
    """Return rows, by positions times -1, of the sums of errors that are 0 if the group does not notice them."""
    rows = []
    for _, name, row in _observed(plan, group):
        weights = plan.meaning(name).weights()
        changes = {str(position): times for position, times in row.items() if position in positions}
        rows.append({**marked(weights, weights), **changes})
    found = rows_behind(plan.modulus, rows)
    return [{-int(key): weight for key, weight in row.items()} for row in found]
