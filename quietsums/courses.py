"""What steps may follow each other, and what the hands hold behind them."""

from quietsums.checks import is_known, is_name
from quietsums.sums import Sum, is_sum

LENGTHS = {"own": 3, "draw": 3, "make": 4, "send": 4, "tell": 3, "drop": 3, "want": 4}


class Course:
    """What hands hold, and since when, behind the steps that it has taken."""

    def __init__(self, modulus, hands):
        self._modulus = modulus
        self._moment = 0
        self._held_since = {hand: {} for hand in hands}
        self._past_spans = {hand: [] for hand in hands}
        self._name_sums = {}
        self._private = {}
        self._told = {}

    def allows(self, step):
        """Tell whether a value is a step that may come next."""
        if not _is_shaped(step) or not is_known(step[1], self._held_since):
            return False
        if step[0] in ("own", "draw"):
            return self._is_new(step[2])
        if step[0] == "make":
            return self._is_new(step[2]) and self._can_add(step[1], step[3])
        if step[0] == "send":
            return self._can_send(step[1], step[2], step[3])
        if not self._holds(step[1], step[2]):
            return False
        if step[0] == "tell":
            return step[2] not in self._told
        return step[0] == "drop" or self._is_private(step[3])

    def take(self, step):
        """Add a step that is allowed."""
        self._moment = self._moment + 1
        if step[0] in ("own", "draw", "make"):
            self._name_sums[step[2]] = self._sum_of_step(step)
            self._gain(step[1], step[2])
        if step[0] == "own":
            self._private[step[2]] = True
        if step[0] == "send":
            self._gain(step[2], step[3])
        if step[0] == "tell":
            self._told[step[2]] = True
            for hand in list(self._held_since):
                self._gain(hand, step[2])
        if step[0] == "drop":
            self._lose(step[1], step[2])

    def meanings(self):
        """Return a dict from all names, in the sequence of the steps, to their meanings."""
        return dict(self._name_sums)

    def spans(self):
        """Return for each hand a list of (name, first moment, first moment after it) for what it held."""
        after = self._moment + 1
        found = {}
        for hand, held in self._held_since.items():
            open_spans = [(name, since, after) for name, since in held.items()]
            found[hand] = self._past_spans[hand] + open_spans
        return found

    def _holds(self, hand, name):
        return is_known(name, self._held_since[hand])

    def _is_new(self, name):
        return is_name(name) and name not in self._name_sums

    def _can_add(self, hand, target):
        return is_sum(self._modulus, target) and all([self._holds(hand, name) for name in target.names()])

    def _can_send(self, hand, other, name):
        return is_known(other, self._held_since) and other != hand and self._holds(hand, name)

    def _is_private(self, target):
        return is_sum(self._modulus, target) and all([name in self._private for name in target.names()])

    def _sum_of_step(self, step):
        if step[0] != "make":
            return Sum(self._modulus, {step[2]: 1})
        return step[3].put({name: self._name_sums[name] for name in step[3].names()})

    def _gain(self, hand, name):
        if name not in self._held_since[hand]:
            self._held_since[hand][name] = self._moment

    def _lose(self, hand, name):
        since = self._held_since[hand].pop(name)
        self._past_spans[hand].append((name, since, self._moment))


def _is_shaped(step):
    """Tell whether a value is a tuple with the word of a kind of steps in front, and as long as these."""
    if not isinstance(step, tuple) or len(step) == 0 or not isinstance(step[0], str):
        return False
    return LENGTHS.get(step[0]) == len(step)
