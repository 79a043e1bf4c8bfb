"""Forms: which sums of doors are always 0, and which ones are known, by what the doors mean."""

from quietsums.ladders import Ladder
from quietsums.rows import CONSTANT, marked, rows_behind
from quietsums.spaces import Relations, Space, sum_of_row


def ladder_of(doors, meanings, seen):
    """Return the ladder of doors with these meanings, with a dict from groups to the sums that they see."""
    spaces = {group: _known_space(doors, meanings, seen[group]) for group in doors.groups()}
    return Ladder(doors, _holding_sums(doors, meanings), spaces)


def put_meanings(target, meanings):
    """Return the sum in which the meanings are put for the doors."""
    return target.put({name: meanings[name] for name in target.names()})


def _door_row(name, meaning):
    """Return the row of a door, with what it means in front."""
    row = marked(meaning.weights(), meaning.weights())
    row[name] = 1
    return row


def _holding_sums(doors, meanings):
    """Return the relations of the door sums whose meaning is 0."""
    rows = []
    for name in doors.names():
        row = _door_row(name, meanings[name])
        # What the meaning has as its constant, the door sum must have less.
        row[CONSTANT] = -meanings[name].constant
        rows.append(row)
    return Relations(doors.modulus, [sum_of_row(doors.modulus, row) for row in rows_behind(doors.modulus, rows)])


def _known_space(doors, meanings, seen):
    """Return the space of the door sums whose meaning is in the space that the seen sums span."""
    rows = [_door_row(name, meanings[name]) for name in doors.names()]
    rows = rows + [marked(total.weights(), total.weights()) for total in seen]
    return Space(doors.modulus, [sum_of_row(doors.modulus, row) for row in rows_behind(doors.modulus, rows)])
