"""Plans: what hands own, draw, make, send, tell, drop and want, step by step."""

from quietsums.checks import is_integer, is_known, is_list, require_hands, require_modulus
from quietsums.courses import Course
from quietsums.errors import InvalidMoment, InvalidStep, UnknownHand, UnknownName

MOST_HANDS = 6


class Plan:
    """A modulus, hands, and steps that may follow each other. It never changes."""

    def __init__(self, modulus, hands, steps):
        require_modulus(modulus)
        require_hands(hands, MOST_HANDS)
        if not is_list(steps):
            raise InvalidStep(None)
        course = Course(modulus, hands)
        for position, step in enumerate(steps):
            if not course.allows(step):
                raise InvalidStep(position)
            course.take(step)
        self._modulus = modulus
        self._hands = list(hands)
        self._steps = list(steps)
        self._name_sums = course.meanings()
        self._spans = course.spans()

    @property
    def modulus(self):
        """The modulus."""
        return self._modulus

    def hands(self):
        """Return the list of the hands, in the sequence in which they were passed."""
        return list(self._hands)

    def steps(self):
        """Return the list of the steps."""
        return list(self._steps)

    def names(self):
        """Return the list of all names, in the sequence of the steps."""
        return list(self._name_sums)

    def own_names(self):
        """Return the list of the private numbers, in the sequence of the steps."""
        return self._names_of_kind("own")

    def drawn_names(self):
        """Return the list of the drawn names, in the sequence of the steps."""
        return self._names_of_kind("draw")

    def told_names(self):
        """Return the list of the told names, in the sequence of their "tell" steps."""
        return self._names_of_kind("tell")

    def meaning(self, name):
        """Return the sum of base names that a name always equals."""
        if not is_known(name, self._name_sums):
            raise UnknownName(name)
        return self._name_sums[name]

    def held(self, hand, moment):
        """Return the sorted list of the names that a hand holds at a moment."""
        if not is_known(hand, self._spans):
            raise UnknownHand(hand)
        self._require_moment(moment)
        return self.held_within(hand, moment, moment)

    def held_within(self, hand, begin, end):
        """Return the sorted list of the names that a hand holds at some moment from begin to end."""
        return sorted({name for name, since, after in self._spans[hand] if since <= end and begin < after})

    def holders(self, name, moment):
        """Return the sorted list of the hands that hold a name at a moment."""
        if not is_known(name, self._name_sums):
            raise UnknownName(name)
        self._require_moment(moment)
        return [hand for hand in sorted(self._hands) if name in self.held_within(hand, moment, moment)]

    def extended(self, *steps):
        """Return the plan with further steps."""
        return Plan(self._modulus, self._hands, self._steps + list(steps))

    def _names_of_kind(self, kind):
        return [step[2] for step in self._steps if step[0] == kind]

    def _require_moment(self, moment):
        if not is_integer(moment) or not 0 <= moment <= len(self._steps):
            raise InvalidMoment(moment)

    def __len__(self):
        return len(self._steps)

    def __eq__(self, other):
        return (isinstance(other, Plan) and self._modulus == other._modulus
                and self._hands == other._hands and self._steps == other._steps)

    def __repr__(self):
        return f"Plan({self._modulus}, {self._hands!r}, {self._steps!r})"
