"""Plans: what hands own, draw, make, send, tell, drop and want, step by step."""

from quietsums.checks import require_hands, require_modulus
from quietsums.courses import Course, names_of_kind, take_all

MOST_HANDS = 6


class Plan:
    """A modulus, hands, and steps that may follow each other. It never changes."""

    def __init__(self, modulus, hands, steps):
        require_modulus(modulus)
        require_hands(hands, MOST_HANDS)
        course = Course(modulus, hands)
        take_all(course, steps)
        self._modulus = modulus
        self._hands = list(hands)
        self._steps = list(steps)
        self._course = course

    @property
    def modulus(self):
        """The modulus."""
        return self._modulus

    def hands(self):
        """Return the list of the hands, in the sequence in which they were passed."""
        return list(self._hands)

    def steps(self):
        """Return the list of the steps."""
        return list(self._steps)

    def names(self):
        """Return the list of all names, in the sequence of the steps."""
        return self._course.names()

    def own_names(self):
        """Return the list of the private numbers, in the sequence of the steps."""
        return names_of_kind(self._steps, "own")

    def drawn_names(self):
        """Return the list of the drawn names, in the sequence of the steps."""
        return names_of_kind(self._steps, "draw")

    def told_names(self):
        """Return the list of the told names, in the sequence of their "tell" steps."""
        return names_of_kind(self._steps, "tell")

    def meaning(self, name):
        """Return the sum of base names that a name always equals."""
        return self._course.meaning(name)

    def held(self, hand, moment):
        """Return the sorted list of the names that a hand holds at a moment."""
        return self._course.held(hand, moment)

    def held_within(self, hand, begin, end):
        """Return the sorted list of the names that a hand holds at some moment from begin to end."""
        return self._course.held_within(hand, begin, end)

    def holders(self, name, moment):
        """Return the sorted list of the hands that hold a name at a moment."""
        self._course.require_name(name)
        self._course.require_moment(moment)
        return [hand for hand in sorted(self._hands) if name in self._course.held(hand, moment)]

    def extended(self, *steps):
        """Return the plan with further steps."""
        return Plan(self._modulus, self._hands, self._steps + list(steps))

    def __len__(self):
        return len(self._steps)

    def __eq__(self, other):
        return (isinstance(other, Plan) and self._modulus == other._modulus
                and self._hands == other._hands and self._steps == other._steps)

    def __repr__(self):
        return f"Plan({self._modulus}, {self._hands!r}, {self._steps!r})"
