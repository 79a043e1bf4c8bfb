"""Texts of plans, parts and demands, and how they are read."""

from quietsums.errors import InvalidText
from quietsums.readers import DemandsReader, PartReader, PlanReader


def plan_text(plan):
    """Return the text of a plan."""
    return _ended(_head_lines(plan.modulus, plan.hands()) + _step_lines(plan.steps()))


def part_text(part):
    """Return the text of a part."""
    return _ended(_door_lines(part.doors) + _step_lines(part.steps()))


def demands_text(demands):
    """Return the text of demands."""
    hold = [f"hold {total}" for total in demands.always()]
    must = [" ".join(["must"] + list(group) + [":", str(target)]) for group, target in demands.must()]
    return _ended(_door_lines(demands.doors) + hold + must)


def read_plan(text):
    """Return the plan with this text."""
    reader = PlanReader()
    reader.read(text)
    return reader.plan()


def read_part(text):
    """Return the part with this text."""
    reader = PartReader()
    many = reader.read(text)
    part = reader.part()
    if part is None:
        raise InvalidText(many + 1)
    return part


def read_demands(text):
    """Return the demands with this text."""
    reader = DemandsReader()
    reader.read(text)
    return reader.demands()


def _ended(lines):
    """Return the text of some lines, each ended by a line feed."""
    return "".join([line + "\n" for line in lines])


def _head_lines(modulus, hands):
    return [f"modulus {modulus}", " ".join(["hands"] + hands)]


def _door_lines(doors):
    """Return the lines of the modulus, the hands, the ins and the outs."""
    ins = [" ".join(["in", name, ":"] + doors.holders(name)) for name in doors.ins()]
    outs = [" ".join(["out", name, ":"] + doors.holders(name)) for name in doors.outs()]
    return _head_lines(doors.modulus, doors.hands()) + ins + outs


def _step_lines(steps):
    return [_step_line(step) for step in steps]


def _step_line(step):
    if step[0] in ("make", "want"):
        return f"{step[0]} {step[1]} {step[2]} = {step[3]}"
    return " ".join(step)
