"""Runs: the numbers of all names in a world, and whether what is wanted holds."""

from quietsums.checks import is_integer, require_numbers
from quietsums.errors import InvalidStep


def run(plan, world):
    """Return a dict from all names, sorted, to their numbers in a world for the base names."""
    require_numbers(plan.modulus, _base_names(plan), world)
    return {name: plan.meaning(name).at(world) for name in sorted(plan.names())}


def wants(plan):
    """Return the list of tuples (position, is_true) for the "want" steps."""
    steps = plan.steps()
    places = [position for position, step in enumerate(steps) if step[0] == "want"]
    return [(position, _excess(plan, steps[position]) is None) for position in places]


def breaking_world(plan, position):
    """Return a world for all base names in which the want at this position does not hold, or None."""
    steps = plan.steps()
    if not is_integer(position) or not 0 <= position < len(steps) or steps[position][0] != "want":
        raise InvalidStep(position)
    excess = _excess(plan, steps[position])
    if excess is None:
        return None
    world = {name: 0 for name in sorted(_base_names(plan))}
    # With all numbers 0 the sums differ by the constant; if it is 0, one name with a weight tells them apart.
    if excess.constant == 0:
        world[excess.names()[0]] = 1
    return world


def _base_names(plan):
    """Return the list of the private numbers and the drawn names, in the sequence of the steps."""
    return [step[2] for step in plan.steps() if step[0] in ("own", "draw")]


def _excess(plan, step):
    """Return the sum by which the name of a "want" exceeds what is wanted, or None if they are equal."""
    excess = plan.meaning(step[2]) - step[3]
    if excess.is_constant and excess.constant == 0:
        return None
    return excess
