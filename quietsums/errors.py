"""The errors of the package. Their attributes have the names of their parameters."""


class QuietsumsError(ValueError):
    """A value is not what the document asks for."""


class InvalidModulus(QuietsumsError):
    """The value is no modulus."""

    def __init__(self, value):
        super().__init__("not one of the primes 2, 3, 5, 7, 11 and 13")
        self.value = value


class InvalidNumber(QuietsumsError):
    """The value is no number, or no integer where one is asked for."""

    def __init__(self, value):
        super().__init__("not a number")
        self.value = value


class InvalidWeights(QuietsumsError):
    """The value is no dict from names to numbers."""

    def __init__(self, value):
        super().__init__("not a dict from names to numbers")
        self.value = value


class InvalidSum(QuietsumsError):
    """The value is no sum, or one of another modulus."""

    def __init__(self, value):
        super().__init__("not a sum of the modulus")
        self.value = value


class InvalidSums(QuietsumsError):
    """The element of a list is no sum, or there is no list (None)."""

    def __init__(self, position):
        super().__init__("not a list of sums of the modulus")
        self.position = position


class InvalidNames(QuietsumsError):
    """The element of a list is no name, or there is no list (None)."""

    def __init__(self, position):
        super().__init__("not a list of names")
        self.position = position


class InvalidName(QuietsumsError):
    """The value is no name."""

    def __init__(self, value):
        super().__init__("not a name")
        self.value = value


class InvalidWorld(QuietsumsError):
    """The value is no dict from names to what they stand for."""

    def __init__(self, value):
        super().__init__("not a dict from names to what they stand for")
        self.value = value


class OtherModulus(QuietsumsError):
    """The argument has another modulus than the object."""

    def __init__(self, given, expected):
        super().__init__("another modulus")
        self.given = given
        self.expected = expected


class InvalidShift(QuietsumsError):
    """The value is no dict from names to numbers other than 0."""

    def __init__(self, value):
        super().__init__("not a shift")
        self.value = value


class InvalidHands(QuietsumsError):
    """The element of a list is no new hand, or there is no such list (None)."""

    def __init__(self, position):
        super().__init__("not a list of different hands")
        self.position = position


class InvalidStep(QuietsumsError):
    """The element is no step that may stand there, or there is no list (None)."""

    def __init__(self, position):
        super().__init__("not a step that may stand there")
        self.position = position


class InvalidMoment(QuietsumsError):
    """The value is no moment."""

    def __init__(self, value):
        super().__init__("not a moment")
        self.value = value


class InvalidWatch(QuietsumsError):
    """The element of a list is no seat, or there is no list (None)."""

    def __init__(self, position):
        super().__init__("not a watch")
        self.position = position


class InvalidGroup(QuietsumsError):
    """The value is no list of different hands."""

    def __init__(self, value):
        super().__init__("not a group")
        self.value = value


class InvalidCount(QuietsumsError):
    """The value is no count, or too great a one."""

    def __init__(self, value):
        super().__init__("not a count within the limit")
        self.value = value


class InvalidBook(QuietsumsError):
    """The element is no entry of a book, or there is no list (None)."""

    def __init__(self, position):
        super().__init__("not a book")
        self.position = position


class InvalidDoors(QuietsumsError):
    """The value is no dict from names to lists of hands."""

    def __init__(self, value):
        super().__init__("not a dict from names to holders")
        self.value = value


class InvalidRelations(QuietsumsError):
    """The value is no relations of door sums."""

    def __init__(self, value):
        super().__init__("not relations of door sums")
        self.value = value


class InvalidSpaces(QuietsumsError):
    """The space of the group is not as it must be, or there is no such dict (None)."""

    def __init__(self, group):
        super().__init__("not the spaces of all groups")
        self.group = group


class OtherDoors(QuietsumsError):
    """The doors differ in this name, or in modulus or hands (None)."""

    def __init__(self, name):
        super().__init__("other doors")
        self.name = name


class InvalidDemand(QuietsumsError):
    """The element of a list is no demand, or there is no list (None)."""

    def __init__(self, position):
        super().__init__("not a list of demands")
        self.position = position


class InvalidDeal(QuietsumsError):
    """The element of a list is no number of a deal, or there is no list (None)."""

    def __init__(self, position):
        super().__init__("not a list of numbers of a deal")
        self.position = position


class InvalidError(QuietsumsError):
    """The value is no dict from positions to numbers other than 0."""

    def __init__(self, value):
        super().__init__("not an error for the plan")
        self.value = value


class InvalidNode(QuietsumsError):
    """The node to which these numbers lead is not as it must be."""

    def __init__(self, path):
        super().__init__("not a node of a tree")
        self.path = path


class InvalidWay(QuietsumsError):
    """The value is no way of the tree."""

    def __init__(self, value):
        super().__init__("not a way of the tree")
        self.value = value


class InvalidText(QuietsumsError):
    """The text is no longer as it must be from this line on, or is no text (None)."""

    def __init__(self, line):
        super().__init__("not a text of this kind")
        self.line = line


class InvalidCommand(QuietsumsError):
    """The value is no command."""

    def __init__(self, value):
        super().__init__("not a command")
        self.value = value


class TooMany(QuietsumsError):
    """There are more than the limit allows."""

    def __init__(self, limit):
        super().__init__("more than the limit allows")
        self.limit = limit


class UnknownName(LookupError):
    """The name is not known here."""

    def __init__(self, name):
        super().__init__("unknown name")
        self.name = name


class UnknownHand(LookupError):
    """The value is no hand that is known here."""

    def __init__(self, value):
        super().__init__("unknown hand")
        self.value = value


class MissingNumber(LookupError):
    """The name has no number."""

    def __init__(self, name):
        super().__init__("a name has no number")
        self.name = name


class MissingName(LookupError):
    """The hand does not hold the name."""

    def __init__(self, name, hand):
        super().__init__("a hand does not hold a name")
        self.name = name
        self.hand = hand


class Contradiction(RuntimeError):
    """The sums that should always be 0 span this number."""

    def __init__(self, number):
        super().__init__("the relations contradict each other")
        self.number = number


class TiedIns(RuntimeError):
    """The relation contains ins alone."""

    def __init__(self, relation):
        super().__init__("a relation ties the ins")
        self.relation = relation


class NotQuiet(RuntimeError):
    """The plan is not quiet by the book, first at this entry."""

    def __init__(self, index):
        super().__init__("the plan is not quiet by the book")
        self.index = index


class NameTaken(RuntimeError):
    """The name is taken already."""

    def __init__(self, name):
        super().__init__("the name is taken")
        self.name = name


class Lost(RuntimeError):
    """The sum is lost."""

    def __init__(self, target):
        super().__init__("the sum is lost")
        self.target = target


class NothingToUndo(RuntimeError):
    """No command is left that could be undone."""
