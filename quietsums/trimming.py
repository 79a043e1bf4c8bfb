"""Trimmed plans, which keep what their wants need, and lean ones, in which few names are drawn."""

from quietsums.books import first_leak
from quietsums.errors import NotQuiet
from quietsums.groups import listening
from quietsums.plans import Plan
from quietsums.rows import FRONT, echelon, marked
from quietsums.spaces import Space
from quietsums.sums import Sum
from quietsums.watches import heard

KINDS = ("draw", "make", "send", "tell")


class Listener:
    """What the group of an entry of a book hears together, and what it may learn."""

    def __init__(self, plan, group, sums):
        drawn = {name: True for name in plan.drawn_names()}
        meanings = [plan.meaning(name) for name in heard(plan, listening(plan, group))]
        self._modulus = plan.modulus
        self._allowed = Space(plan.modulus, sums)
        self._rows = echelon(plan.modulus, [marked(total.weights(), drawn) for total in meanings])

    def may_lose(self, name):
        """Tell whether the group still learns nothing else if this drawn name is 0."""
        # The rows are reduced. So if a heard sum has this drawn name alone, the name leads the row of such a sum.
        row = self._rows.get(FRONT + name, {})
        if len([key for key in row if key.startswith(FRONT)]) != 1:
            return True
        weights = {key: weight for key, weight in row.items() if not key.startswith(FRONT)}
        return Sum(self._modulus, weights) in self._allowed

    def lose(self, name):
        """Let this drawn name be 0 from now on."""
        lead = FRONT + name
        rows = [{key: weight for key, weight in row.items() if key != lead} for row in self._rows.values()]
        self._rows = echelon(self._modulus, rows)


def needless_steps(plan):
    """Return the ascending list of the positions of the needless steps."""
    steps = plan.steps()
    return [position for position, step in enumerate(steps)
            if _rest_without(plan, position, step, steps[position + 1:]) is not None]


def trimmed(plan):
    """Return the plan without needless steps, the last of which is removed again and again."""
    # No step becomes needless because an earlier one is removed: then hands hold less, not more.
    rest = []
    for position, step in reversed(list(enumerate(plan.steps()))):
        kept = _rest_without(plan, position, step, rest)
        rest = [step] + rest if kept is None else kept
    return Plan(plan.modulus, plan.hands(), rest)


def needless_draws(plan, book):
    """Return the list of the drawn names that are needless by a book."""
    _require_quiet(plan, book)
    # A true want has no drawn names in its meaning: so it stays true if one of them is 0.
    listeners = _listeners(plan, book)
    return [name for name in plan.drawn_names() if _all_may_lose(listeners, name)]


def lean(plan, book):
    """Return the trimmed plan in which the first needless drawn name is replaced by 0, again and again."""
    _require_quiet(plan, book)
    thin = trimmed(plan)
    # A drawn name that is not needless does not become so: other names that are 0 tell more, not less.
    # Who needs a drawn name needs the 0 in its place, too: so there is nothing to trim behind it.
    listeners = _listeners(thin, book)
    gone = {}
    for name in thin.drawn_names():
        if _all_may_lose(listeners, name):
            gone[name] = True
            for listener in listeners:
                listener.lose(name)
    steps = [_made_zero(thin.modulus, step) if _is_draw_of(step, gone) else step for step in thin.steps()]
    return Plan(thin.modulus, thin.hands(), steps)


def _require_quiet(plan, book):
    """Raise an error unless the plan is quiet by a book."""
    leak = first_leak(plan, book)
    if leak is not None:
        raise NotQuiet(leak[0])


def _listeners(plan, book):
    """Return the list of the Listeners of the entries."""
    return [Listener(plan, group, sums) for group, sums in book]


def _all_may_lose(listeners, name):
    return all([listener.may_lose(name) for listener in listeners])


def _rest_without(plan, position, step, rest):
    """Return the later steps without the "drop" steps that go with this one, or None if it is not needless."""
    if step[0] not in KINDS:
        return None
    name = step[3] if step[0] == "send" else step[2]
    holders = {hand: True for hand in plan.holders(name, position)}
    kept = []
    for later in rest:
        if later[0] == "drop" and later[2] == name:
            if later[1] in holders:
                kept.append(later)
                holders.pop(later[1])
        elif _needs(later, name) and later[1] not in holders:
            return None
        else:
            kept.append(later)
            for hand in _new_holders(plan, later, name):
                holders[hand] = True
    return kept


def _needs(step, name):
    """Tell whether the hand of a step has to hold a name for it."""
    if step[0] == "make":
        return step[3].weight(name) != 0
    if step[0] == "send":
        return step[3] == name
    return step[0] in ("tell", "want") and step[2] == name


def _new_holders(plan, step, name):
    """Return a list of hands that hold a name behind a step because of it."""
    if step[0] == "send" and step[3] == name:
        return [step[2]]
    if step[0] == "tell" and step[2] == name:
        return plan.hands()
    return []


def _is_draw_of(step, names):
    return step[0] == "draw" and step[2] in names


def _made_zero(modulus, step):
    """Return the step that makes 0 instead of drawing a name."""
    return ("make", step[1], step[2], Sum(modulus, {}))
