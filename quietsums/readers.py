"""Readers: they take a text line by line, as long as the lines are the beginning of a text of their kind."""

from quietsums.checks import PRIMES
from quietsums.courses import Course
from quietsums.demands import Demands, require_entries
from quietsums.doors import Doors
from quietsums.errors import Contradiction, InvalidDemand, InvalidDoors, InvalidHands, InvalidSums, InvalidText
from quietsums.errors import MissingName, TiedIns, TooMany
from quietsums.parts import InnerCourse, Part
from quietsums.plans import Plan
from quietsums.sums import sum_or_none


class TextReader:
    """Takes the lines of a text: first that of the modulus, then that of the hands, then those of its kind.

    The kinds below say which hands they can have, and take the lines behind them.
    """

    def __init__(self):
        self._modulus = None
        self._hands = None

    def read(self, text):
        """Take all lines of a text, or raise InvalidText; return how many they are."""
        if not isinstance(text, str):
            raise InvalidText(None)
        *lines, rest = text.split("\n")
        for position, line in enumerate(lines):
            if not self._takes(line):
                raise InvalidText(position + 1)
        if rest != "" or self._hands is None:
            raise InvalidText(len(lines) + 1)
        return len(lines)

    def takes_step(self, course, steps, line):
        """Take the line of a step that a course allows, add the step to some, and tell whether it may stand there."""
        step = self._step_of(line)
        if not course.allows(step):
            return False
        course.take(step)
        steps.append(step)
        return True

    def sum_of(self, text):
        """Return the sum with this text, or None."""
        return sum_or_none(self._modulus, text)

    def _takes(self, line):
        """Take the next line, and tell whether it may stand there."""
        if self._modulus is None:
            texts = {f"modulus {number}": number for number in PRIMES}
            self._modulus = texts.get(line)
            return self._modulus is not None
        if self._hands is not None:
            return self.takes_further(line)
        word, *hands = line.split(" ")
        if word != "hands" or not self.can_have(hands):
            return False
        self._hands = hands
        return True

    def _step_of(self, line):
        """Return the step of a line; what is no step may be returned as some other tuple."""
        if line.partition(" ")[0] not in ("make", "want"):
            return tuple(line.split(" "))
        head, _, text = line.partition(" = ")
        words = head.split(" ")
        return tuple(words + [self.sum_of(text)])


class PlanReader(TextReader):
    """Takes the lines of a plan."""

    def __init__(self):
        super().__init__()
        self._steps = []
        self._course = None

    def can_have(self, hands):
        """Tell whether these words may be the hands."""
        try:
            Plan(self._modulus, hands, [])
        except InvalidHands:
            return False
        self._course = Course(self._modulus, hands)
        return True

    def takes_further(self, line):
        """Take a line behind that of the hands, and tell whether it may stand there."""
        return self.takes_step(self._course, self._steps, line)

    def plan(self):
        """Return the plan of the lines taken."""
        return Plan(self._modulus, self._hands, self._steps)


class DoorsReader(TextReader):
    """Takes the lines of doors."""

    def __init__(self):
        super().__init__()
        self._ins = {}
        self._outs = {}
        self._doors = None

    def can_have(self, hands):
        """Tell whether these words may be the hands."""
        return hands == sorted(hands) and self._can_be_doors(hands, {}, {})

    def takes_door(self, line):
        """Take the line of an in or an out, and tell whether it may stand there."""
        head, _, end = line.partition(" : ")
        word, _, name = head.partition(" ")
        holders = end.split(" ")
        if holders != sorted(holders):
            return False
        if word == "in" and len(self._outs) == 0 and _is_last(name, self._ins):
            return self._can_be_doors(self._hands, {**self._ins, name: holders}, {})
        if word == "out" and _is_last(name, self._outs):
            return self._can_be_doors(self._hands, self._ins, {**self._outs, name: holders})
        return False

    def _can_be_doors(self, hands, ins, outs):
        """Keep what may be the doors so far, and tell whether they may be."""
        try:
            self._doors = Doors(self._modulus, hands, ins, outs)
        except (InvalidHands, InvalidDoors, TooMany):
            return False
        self._ins = ins
        self._outs = outs
        return True


class PartReader(DoorsReader):
    """Takes the lines of a part."""

    def __init__(self):
        super().__init__()
        self._steps = []
        self._course = None

    def takes_further(self, line):
        """Take a line behind that of the hands, and tell whether it may stand there."""
        if self._course is None:
            if self.takes_door(line):
                return True
            self._course = InnerCourse(self._doors)
        return self.takes_step(self._course, self._steps, line)

    def part(self):
        """Return the part of the lines taken, or None if some holder of an out does not hold it."""
        try:
            return Part(self._doors, self._steps)
        except MissingName:
            return None


class DemandsReader(DoorsReader):
    """Takes the lines of demands."""

    def __init__(self):
        super().__init__()
        self._always = []
        self._must = []

    def takes_further(self, line):
        """Take a line behind that of the hands, and tell whether it may stand there."""
        word, _, rest = line.partition(" ")
        if word == "must":
            return self._takes_must(line)
        if word == "hold":
            return len(self._must) == 0 and self._takes_relation(self.sum_of(rest))
        return len(self._always) == 0 and len(self._must) == 0 and self.takes_door(line)

    def demands(self):
        """Return the demands of the lines taken."""
        return Demands(self._doors, self._always, self._must)

    def _takes_relation(self, total):
        try:
            Demands(self._doors, self._always + [total], [])
        except (InvalidSums, Contradiction, TiedIns):
            return False
        self._always.append(total)
        return True

    def _takes_must(self, line):
        head, _, text = line.partition(" : ")
        group = head.split(" ")[1:]
        entry = (group, self.sum_of(text))
        try:
            require_entries(self._doors, [entry])
        except InvalidDemand:
            return False
        self._must.append(entry)
        return group == sorted(group)


def _is_last(name, names):
    """Tell whether a name comes after all of some names."""
    return all([other < name for other in names])
