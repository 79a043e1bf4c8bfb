"""Parts: steps between doors, which may be placed in a plan."""

from quietsums.checks import is_list, require_group, require_hands
from quietsums.courses import Course, names_of_kind, take_all
from quietsums.errors import InvalidHands, InvalidStep, MissingName, NameTaken
from quietsums.plans import MOST_HANDS, Plan

KINDS = ("draw", "make", "send", "tell", "drop")


class InnerCourse(Course):
    """What hands hold within a part: at first the ins of which they are holders."""

    def __init__(self, doors):
        super().__init__(doors.modulus, doors.hands())
        self._ins = doors.ins()
        for name in self._ins:
            self.admit(name, doors.holders(name))

    def allows(self, step):
        """Tell whether a value is a step that may come next in a part."""
        if not super().allows(step) or step[0] not in KINDS:
            return False
        return step[0] != "drop" or step[2] not in self._ins


class Part:
    """Doors, and steps that may follow each other, after which the outs are held. It never changes."""

    def __init__(self, doors, steps):
        course = InnerCourse(doors)
        take_all(course, steps)
        _require_held(course, doors, doors.outs(), len(steps))
        self._doors = doors
        self._steps = list(steps)
        self._course = course

    @property
    def doors(self):
        """The doors."""
        return self._doors

    def steps(self):
        """Return the list of the steps."""
        return list(self._steps)

    def names(self):
        """Return the sorted list of the doors and all other names."""
        return sorted(self._course.names())

    def told_names(self):
        """Return the list of the told names, in the sequence of their "tell" steps."""
        return names_of_kind(self._steps, "tell")

    def meaning(self, name):
        """Return the sum of ins and drawn names that a name always equals."""
        return self._course.meaning(name)

    def held(self, hand, moment):
        """Return the sorted list of the names that a hand holds at a moment."""
        return self._course.held(hand, moment)

    def seen(self, group):
        """Return the sorted list of the names that a group sees."""
        require_group(group, self._doors.hands())
        held = [name for hand in group for name in self._course.held_within(hand, 0, len(self._steps))]
        return sorted(set(held + self.told_names()))

    def placed(self, hands, ahead, behind):
        """Return the plan with these hands in which the part stands between steps ahead and behind."""
        inside = self._inside(hands, ahead)
        if not is_list(behind):
            raise InvalidStep(None)
        return inside.extended(*behind)

    def moments(self, hands, ahead):
        """Return the moments before the first step, after the last one, and after the last "drop" behind it."""
        after = len(self._inside(hands, ahead))
        return len(ahead), len(ahead) + len(self._steps), after

    def _inside(self, hands, ahead):
        """Return the plan of the steps ahead, the part, and the "drop" steps behind it."""
        require_hands(hands, MOST_HANDS)
        if not all([hand in hands for hand in self._doors.hands()]):
            raise InvalidHands(None)
        plan = Plan(self._doors.modulus, hands, ahead)
        _require_held(plan, self._doors, self._doors.ins(), len(plan))
        self._require_free(plan)
        longer = plan.extended(*self._steps)
        drops = self._drops(plan, longer)
        return longer.extended(*drops)

    def _require_free(self, plan):
        """Raise NameTaken if the steps ahead use a name of the part, or tell an in that it tells."""
        ins = self._doors.ins()
        names = [name for name in self.names() if name not in ins]
        for name in plan.names():
            if name in names:
                raise NameTaken(name)
        told = plan.told_names()
        for name in sorted(self.told_names()):
            if name in told:
                raise NameTaken(name)

    def _drops(self, plan, longer):
        """Return the "drop" steps after which hands hold what they held ahead of the part, and their outs."""
        kept = {(name, hand): True for hand in plan.hands() for name in plan.held(hand, len(plan))}
        for name in self._doors.outs():
            for hand in self._doors.holders(name):
                kept[(name, hand)] = True
        held = sorted([(name, hand) for hand in plan.hands() for name in longer.held(hand, len(longer))])
        return [("drop", hand, name) for name, hand in held if (name, hand) not in kept]

    def __len__(self):
        return len(self._steps)

    def __eq__(self, other):
        return isinstance(other, Part) and self._doors == other._doors and self._steps == other._steps


def _require_held(course, doors, names, moment):
    """Raise MissingName unless all holders of some doors hold them at a moment."""
    for name in names:
        for hand in doors.holders(name):
            if name not in course.held(hand, moment):
                raise MissingName(name, hand)
