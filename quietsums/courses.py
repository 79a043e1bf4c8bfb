"""What steps may follow each other, and what the hands hold behind them."""

from quietsums.checks import is_integer, is_known, is_list, is_name
from quietsums.errors import InvalidMoment, InvalidStep, UnknownHand, UnknownName
from quietsums.sums import Sum, is_sum_of

LENGTHS = {"own": 3, "draw": 3, "make": 4, "send": 4, "tell": 3, "drop": 3, "want": 4}


class Course:
    """What hands hold, and since when, behind the steps that it has taken."""

    def __init__(self, modulus, hands):
        self._modulus = modulus
        self._moment = 0
        self._held_since = {hand: {} for hand in hands}
        self._past_spans = {hand: [] for hand in hands}
        self._name_sums = {}
        self._private = {}
        self._told = {}

    def admit(self, name, holders):
        """Let some hands hold a name from the beginning; it stands for itself."""
        self._name_sums[name] = Sum(self._modulus, {name: 1})
        for hand in holders:
            self._gain(hand, name)

    def allows(self, step):
        """Tell whether a value is a step that may come next."""
        if not _is_shaped(step) or not is_known(step[1], self._held_since):
            return False
        if step[0] in ("own", "draw"):
            return self._is_new(step[2])
        if step[0] == "make":
            return self._is_new(step[2]) and self._can_add(step[1], step[3])
        if step[0] == "send":
            return self._can_send(step[1], step[2], step[3])
        if not self._holds(step[1], step[2]):
            return False
        if step[0] == "tell":
            return step[2] not in self._told
        return step[0] == "drop" or self._is_private(step[3])

    def take(self, step):
        """Add a step that is allowed."""
        self._moment = self._moment + 1
        if step[0] in ("own", "draw", "make"):
            self._name_sums[step[2]] = self._sum_of_step(step)
            self._gain(step[1], step[2])
        if step[0] == "own":
            self._private[step[2]] = True
        if step[0] == "send":
            self._gain(step[2], step[3])
        if step[0] == "tell":
            self._told[step[2]] = True
            for hand in list(self._held_since):
                self._gain(hand, step[2])
        if step[0] == "drop":
            self._lose(step[1], step[2])

    def names(self):
        """Return the list of all names, in the sequence in which they came."""
        return list(self._name_sums)

    def require_name(self, name):
        """Raise UnknownName unless the value is a name that came."""
        if not is_known(name, self._name_sums):
            raise UnknownName(name)

    def meaning(self, name):
        """Return the sum of names that were not made that a name always equals."""
        self.require_name(name)
        return self._name_sums[name]

    def require_moment(self, moment):
        """Raise InvalidMoment unless the value is a moment up to now."""
        if not is_integer(moment) or not 0 <= moment <= self._moment:
            raise InvalidMoment(moment)

    def held(self, hand, moment):
        """Return the sorted list of the names that a hand holds at a moment."""
        if not is_known(hand, self._held_since):
            raise UnknownHand(hand)
        self.require_moment(moment)
        return self.held_within(hand, moment, moment)

    def held_within(self, hand, begin, end):
        """Return the sorted list of the names that a hand holds at some moment from begin to end."""
        past = [name for name, since, after in self._past_spans[hand] if since <= end and begin < after]
        now = [name for name, since in self._held_since[hand].items() if since <= end]
        return sorted(set(past + now))

    def _holds(self, hand, name):
        return is_known(name, self._held_since[hand])

    def _is_new(self, name):
        return is_name(name) and name not in self._name_sums

    def _can_add(self, hand, target):
        return is_sum_of(self._modulus, target, self._held_since[hand])

    def _can_send(self, hand, other, name):
        return is_known(other, self._held_since) and other != hand and self._holds(hand, name)

    def _is_private(self, target):
        return is_sum_of(self._modulus, target, self._private)

    def _sum_of_step(self, step):
        if step[0] != "make":
            return Sum(self._modulus, {step[2]: 1})
        return step[3].put({name: self._name_sums[name] for name in step[3].names()})

    def _gain(self, hand, name):
        if name not in self._held_since[hand]:
            self._held_since[hand][name] = self._moment

    def _lose(self, hand, name):
        since = self._held_since[hand].pop(name)
        self._past_spans[hand].append((name, since, self._moment))


def take_all(course, steps):
    """Let a course take some steps, or raise InvalidStep unless they are a list of steps that it allows."""
    if not is_list(steps):
        raise InvalidStep(None)
    for position, step in enumerate(steps):
        if not course.allows(step):
            raise InvalidStep(position)
        course.take(step)


def names_of_kind(steps, kind):
    """Return the names of those steps that are of a kind, not "send", in their sequence."""
    return [step[2] for step in steps if step[0] == kind]


def _is_shaped(step):
    """Tell whether a value is a tuple with the word of a kind of steps in front, and as long as these."""
    if not isinstance(step, tuple) or len(step) == 0 or not isinstance(step[0], str):
        return False
    return LENGTHS.get(step[0]) == len(step)
