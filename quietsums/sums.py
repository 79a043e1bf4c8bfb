"""Sums of names with weights and a constant, modulo a prime."""

from quietsums.checks import is_integer, is_list, is_name, is_number, is_world, require_modulus
from quietsums.errors import InvalidNumber, InvalidSum, InvalidSums, InvalidText, InvalidWeights
from quietsums.errors import InvalidWorld, MissingNumber, OtherModulus, UnknownName


class Sum:
    """A constant, and weights other than 0 for some names. It never changes."""

    def __init__(self, modulus, weights, constant=0):
        require_modulus(modulus)
        if not is_world(modulus, weights):
            raise InvalidWeights(weights)
        if not is_number(modulus, constant):
            raise InvalidNumber(constant)
        self._modulus = modulus
        self._weights = {name: weights[name] for name in sorted(weights) if weights[name] != 0}
        self._constant = constant

    @classmethod
    def of(cls, modulus, **weights):
        """Return the sum with these weights and the constant 0."""
        return cls(modulus, weights)

    @classmethod
    def parse(cls, modulus, text):
        """Return the sum with this text."""
        require_modulus(modulus)
        if not isinstance(text, str):
            raise InvalidText(1)
        weights, constant = _read(modulus, text)
        if not is_world(modulus, weights):
            raise InvalidText(1)
        # Only the one text that the sum would write is read: so sequence, zeros and blanks are right.
        total = cls(modulus, weights, constant)
        if str(total) != text:
            raise InvalidText(1)
        return total

    @property
    def modulus(self):
        """The modulus."""
        return self._modulus

    @property
    def constant(self):
        """The constant."""
        return self._constant

    @property
    def is_constant(self):
        """Whether the sum has no names."""
        return len(self._weights) == 0

    def weights(self):
        """Return a dict from the names, sorted, to their weights."""
        return dict(self._weights)

    def names(self):
        """Return the sorted list of the names."""
        return list(self._weights)

    def weight(self, name):
        """Return the weight of a name, 0 for any other value."""
        return self._weights.get(name, 0) if isinstance(name, str) else 0

    def at(self, world):
        """Return the value in a world."""
        if not is_world(self._modulus, world):
            raise InvalidWorld(world)
        for name in self._weights:
            if name not in world:
                raise MissingNumber(name)
        moves = [weight * world[name] for name, weight in self._weights.items()]
        return (self._constant + sum(moves)) % self._modulus

    def put(self, sums):
        """Return the sum in which each of these names is replaced by its sum, all at once."""
        if not _is_sum_world(self._modulus, sums):
            raise InvalidWorld(sums)
        found = {}
        constant = self._constant
        for name, weight in self._weights.items():
            inner = {name: 1}
            if name in sums:
                inner = sums[name].weights()
                constant = constant + weight * sums[name].constant
            for other, times in inner.items():
                found[other] = found.get(other, 0) + weight * times
        return _taken_modulo(self._modulus, found, constant)

    def __add__(self, other):
        _require_addend(self, other)
        return _added(self, 1, other)

    def __sub__(self, other):
        _require_addend(self, other)
        return _added(self, -1, other)

    def __neg__(self):
        return self * -1

    def __mul__(self, other):
        if not is_integer(other):
            raise InvalidNumber(other)
        found = {name: weight * other for name, weight in self._weights.items()}
        return _taken_modulo(self._modulus, found, self._constant * other)

    def __eq__(self, other):
        return (isinstance(other, Sum) and self._modulus == other._modulus
                and self._weights == other._weights and self._constant == other._constant)

    def __str__(self):
        return " + ".join(_terms(self._weights, self._constant))

    def __repr__(self):
        return f"Sum({self._modulus}, {self._weights!r}, {self._constant})"


def sum_or_none(modulus, text):
    """Return the sum with this text, or None."""
    try:
        return Sum.parse(modulus, text)
    except InvalidText:
        return None


def is_sum(modulus, value):
    """Tell whether a value is a Sum of the modulus."""
    return isinstance(value, Sum) and value.modulus == modulus


def require_sum(modulus, value):
    """Raise InvalidSum unless the value is a Sum of the modulus."""
    if not is_sum(modulus, value):
        raise InvalidSum(value)


def is_sum_of(modulus, value, names):
    """Tell whether a value is a Sum of the modulus that contains only some names."""
    return is_sum(modulus, value) and all([name in names for name in value.names()])


def require_sum_of(modulus, value, names):
    """Raise an error unless the value is a Sum of the modulus that contains only some names."""
    require_sum(modulus, value)
    for name in value.names():
        if name not in names:
            raise UnknownName(name)


def require_sums(modulus, sums):
    """Raise InvalidSums unless the value is a list of Sums of the modulus."""
    if not is_list(sums):
        raise InvalidSums(None)
    for position, total in enumerate(sums):
        if not is_sum(modulus, total):
            raise InvalidSums(position)


def _require_addend(left, right):
    """Raise an error unless the right value can be added to the left sum."""
    if not isinstance(right, Sum):
        raise InvalidSum(right)
    if right.modulus != left.modulus:
        raise OtherModulus(right.modulus, left.modulus)


def _is_sum_world(modulus, value):
    """Tell whether a value is a dict from NAMEs to Sums of the modulus."""
    if not isinstance(value, dict):
        return False
    return all([is_name(name) and is_sum(modulus, total) for name, total in value.items()])


def _taken_modulo(modulus, weights, constant):
    """Return the sum with these integers, each taken modulo the modulus."""
    return Sum(modulus, {name: weight % modulus for name, weight in weights.items()}, constant % modulus)


def _added(one, times, other):
    """Return the one sum plus so many times the other one."""
    found = dict(one.weights())
    for name, weight in other.weights().items():
        found[name] = found.get(name, 0) + times * weight
    return _taken_modulo(one.modulus, found, one.constant + times * other.constant)


def _terms(weights, constant):
    """Return the words of a sum's text between which ` + ` stands."""
    terms = [name if weight == 1 else f"{weight} {name}" for name, weight in weights.items()]
    if constant != 0 or len(terms) == 0:
        return terms + [str(constant)]
    return terms


def _read(modulus, text):
    """Return what may be the weights and the constant of a text; of a text that has none, some other ones."""
    numbers = {str(number): number for number in range(modulus)}
    weights = {}
    constant = 0
    for term in text.split(" + "):
        word, _, name = term.partition(" ")
        if name != "":
            weights[name] = numbers.get(word, 0)
        elif word in numbers:
            constant = numbers[word]
        else:
            weights[word] = 1
    return weights, constant
