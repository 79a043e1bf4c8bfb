"""Spaces: sums that are known together. Relations: sums that are always 0."""

from quietsums.checks import require_modulus, require_names
from quietsums.errors import Contradiction, InvalidSums, OtherModulus
from quietsums.rows import CONSTANT, cleared, echelon, rows_shared, rows_without
from quietsums.sums import Sum, is_sum, require_sum, require_sums


class Spanned:
    """What spaces and relations are made of: a modulus, and the rows of the basis by their leading names."""

    def __init__(self, modulus, rows):
        self._modulus = modulus
        self._rows = rows

    def _basis_sums(self):
        return _sums_of_rows(self._modulus, self._basis_rows())

    def _basis_rows(self):
        return list(self._rows.values())

    def _basis_names(self):
        return sorted({key for row in self._rows.values() for key in row if key != CONSTANT})

    def _shared_sums(self, other):
        return _sums_of_rows(self._modulus, rows_shared(self._modulus, self._basis_rows(), other._basis_rows()))

    def _sums_without(self, names):
        require_names(names)
        return _sums_of_rows(self._modulus, rows_without(self._modulus, self._basis_rows(), names))

    def _is_within(self, other):
        return all([total in other for total in self._basis_sums()])

    def _require_modulus_of(self, other):
        if other.modulus != self._modulus:
            raise OtherModulus(other.modulus, self._modulus)


class Space(Spanned):
    """The least set with some sums that has all constants, sums of its sums, and multiples. It never changes."""

    def __init__(self, modulus, sums):
        require_modulus(modulus)
        require_sums(modulus, sums)
        Spanned.__init__(self, modulus, echelon(modulus, [total.weights() for total in sums]))

    @classmethod
    def everything(cls, modulus, names):
        """Return the space of all sums of these names."""
        require_modulus(modulus)
        require_names(names)
        return cls(modulus, [Sum(modulus, {name: 1}) for name in names])

    @property
    def modulus(self):
        """The modulus."""
        return self._modulus

    @property
    def dimension(self):
        """The length of the basis."""
        return len(self._rows)

    def basis(self):
        """Return the list of the sums of the basis."""
        return self._basis_sums()

    def names(self):
        """Return the sorted list of all names in the basis."""
        return self._basis_names()

    def reduced(self, target):
        """Return the target plus a sum of the space, without leading names and constant."""
        require_sum(self._modulus, target)
        return Sum(self._modulus, cleared(self._modulus, target.weights(), self._rows))

    def joined(self, other):
        """Return the space that both spaces span."""
        self._require_space(other)
        return Space(self._modulus, self.basis() + other.basis())

    def shared(self, other):
        """Return the space of the sums that are in both spaces."""
        self._require_space(other)
        return Space(self._modulus, self._shared_sums(other))

    def within(self, other):
        """Tell whether the other space contains all sums of this one."""
        self._require_space(other)
        return self._is_within(other)

    def without(self, names):
        """Return the space of the sums in which none of the names occurs."""
        return Space(self._modulus, self._sums_without(names))

    def _require_space(self, other):
        if not isinstance(other, Space):
            raise InvalidSums(None)
        self._require_modulus_of(other)

    def __contains__(self, target):
        return is_sum(self._modulus, target) and len(cleared(self._modulus, target.weights(), self._rows)) == 0

    def __eq__(self, other):
        return isinstance(other, Space) and self._modulus == other._modulus and self._rows == other._rows

    def __repr__(self):
        return f"Space({self._modulus}, {self._basis_sums()!r})"


class Relations(Spanned):
    """The least set with some sums that has 0, sums of its sums, and multiples, if it has no other constant."""

    def __init__(self, modulus, sums):
        require_modulus(modulus)
        require_sums(modulus, sums)
        rows = echelon(modulus, [_full_row(total) for total in sums])
        if CONSTANT in rows:
            raise Contradiction(1)
        Spanned.__init__(self, modulus, rows)

    @property
    def modulus(self):
        """The modulus."""
        return self._modulus

    @property
    def dimension(self):
        """The length of the basis."""
        return len(self._rows)

    def basis(self):
        """Return the list of the sums of the basis."""
        return self._basis_sums()

    def names(self):
        """Return the sorted list of all names in the basis."""
        return self._basis_names()

    def spanned(self):
        """Return the space that the relations span."""
        return Space(self._modulus, self.basis())

    def reduced(self, target):
        """Return the target plus a sum of the relations, without leading names."""
        require_sum(self._modulus, target)
        return sum_of_row(self._modulus, cleared(self._modulus, _full_row(target), self._rows))

    def joined(self, other):
        """Return the relations that both span."""
        self._require_relations(other)
        return Relations(self._modulus, self.basis() + other.basis())

    def shared(self, other):
        """Return the relations that are in both."""
        self._require_relations(other)
        return Relations(self._modulus, self._shared_sums(other))

    def within(self, other):
        """Tell whether the other relations contain all of these."""
        self._require_relations(other)
        return self._is_within(other)

    def without(self, names):
        """Return the relations in which none of the names occurs."""
        return Relations(self._modulus, self._sums_without(names))

    def _require_relations(self, other):
        if not isinstance(other, Relations):
            raise InvalidSums(None)
        self._require_modulus_of(other)

    def __contains__(self, target):
        return is_sum(self._modulus, target) and len(cleared(self._modulus, _full_row(target), self._rows)) == 0

    def __eq__(self, other):
        return isinstance(other, Relations) and self._modulus == other._modulus and self._rows == other._rows

    def __repr__(self):
        return f"Relations({self._modulus}, {self._basis_sums()!r})"


def _full_row(total):
    """Return the row of a sum, with its constant."""
    if total.constant == 0:
        return total.weights()
    return {**total.weights(), CONSTANT: total.constant}


def sum_of_row(modulus, row):
    """Return the sum with this row."""
    weights = {key: weight for key, weight in row.items() if key != CONSTANT}
    return Sum(modulus, weights, row.get(CONSTANT, 0))


def _sums_of_rows(modulus, rows):
    """Return the list of the sums with these rows."""
    return [sum_of_row(modulus, row) for row in rows]
