"""Copies: by how much the numbers that hands have differ from what they should be, if wrong numbers arrive."""


class Copies:
    """Which hands have a copy of which names, and how the copies depend on what is added in which step.

    What a copy has too much is a row: a dict from positions of steps to numbers, by which the errors there count.
    """

    def __init__(self, plan):
        self._modulus = plan.modulus
        self._hands = plan.hands()
        self._rows = {hand: {} for hand in self._hands}
        self._heard = {}
        for position, step in enumerate(plan.steps()):
            self._take(position, step)

    def held(self, hand):
        """Return a dict from the names of which a hand ever has a copy to the rows of the copies."""
        return dict(self._rows[hand])

    def heard(self):
        """Return a dict from the told names to the rows of what is heard."""
        return dict(self._heard)

    def _take(self, position, step):
        if step[0] in ("own", "draw"):
            self._rows[step[1]][step[2]] = {}
        if step[0] == "make":
            self._rows[step[1]][step[2]] = self._made(step[1], step[3])
        if step[0] == "send":
            self._keep_first(step[2], step[3], self._arrived(position, step[1], step[3]))
        if step[0] == "tell":
            row = self._arrived(position, step[1], step[2])
            self._heard[step[2]] = row
            for hand in self._hands:
                self._keep_first(hand, step[2], row)

    def _made(self, hand, total):
        row = {}
        for name, weight in total.weights().items():
            for position, times in self._rows[hand][name].items():
                row[position] = (row.get(position, 0) + weight * times) % self._modulus
        return row

    def _arrived(self, position, hand, name):
        return {**self._rows[hand][name], position: 1}

    def _keep_first(self, hand, name, row):
        if name not in self._rows[hand]:
            self._rows[hand][name] = row


def amount(modulus, row, error):
    """Return the number by which a copy with this row differs by an error."""
    return sum([times * error.get(position, 0) for position, times in row.items()]) % modulus
