"""Commands: strings that say what to do in a workshop, taken apart into tuples."""

from quietsums.checks import is_name
from quietsums.sums import sum_or_none

LENGTHS = {"enter": 1, "stop": 1, "own": 2, "drop": 2}


def command_parts(modulus, command):
    """Return a tuple of the first word of a command, and of what it speaks of, or None if it is no command.

    The others are names for enter, stop, own and drop; a hand, a name and a sum for give; hands, and a list of
    tuples of a name, holders and a sum for round; hands and a sum for knows; a sum for tellers and express.
    """
    if not isinstance(command, str):
        return None
    word, _, rest = command.partition(" ")
    found = None
    if word in LENGTHS:
        found = _names(rest, LENGTHS[word])
    if word == "give":
        found = _given(modulus, rest)
    if word == "round":
        found = _entries(modulus, rest)
    if word == "knows":
        found = _hands_and_sum(modulus, rest)
    if word in ("tellers", "express"):
        found = _only_sum(modulus, rest)
    if command == "back":
        found = ()
    return None if found is None else (word, *found)


def _names(text, many):
    """Return the tuple of so many NAMEs that are the words of a text, or None."""
    words = tuple(text.split(" "))
    if len(words) != many or not all([is_name(word) for word in words]):
        return None
    return words


def _hands(text):
    """Return the list of the different hands that are the words of a text, or None."""
    hands = text.split(" ")
    if not all([is_name(hand) for hand in hands]) or len(set(hands)) < len(hands):
        return None
    return hands


def _only_sum(modulus, text):
    total = sum_or_none(modulus, text)
    return None if total is None else (total,)


def _given(modulus, text):
    """Return the tuple of a hand, a name and a sum, between the latter of which ` = ` stands, or None."""
    head, _, end = text.partition(" = ")
    names = _names(head, 2)
    total = sum_or_none(modulus, end)
    return None if names is None or total is None else (*names, total)


def _hands_and_sum(modulus, text):
    """Return the tuple of a list of hands and a sum, between which ` : ` stands, or None."""
    head, _, end = text.partition(" : ")
    hands = _hands(head)
    total = sum_or_none(modulus, end)
    return None if hands is None or total is None else (hands, total)


def _entries(modulus, text):
    """Return the tuple of a list of hands, and a list of new names with holders among them and sums, or None."""
    head, *ends = text.split(" ; ")
    hands = _hands(head)
    entries = [_entry(modulus, end) for end in ends]
    if hands is None or len(entries) == 0 or not all([entry is not None for entry in entries]):
        return None
    if not all([holder in hands for _, holders, _ in entries for holder in holders]):
        return None
    return hands, entries


def _entry(modulus, text):
    """Return the tuple of a new name, its holders and a sum, between which ` : ` and ` = ` stand, or None."""
    name, _, rest = text.partition(" : ")
    head, _, end = rest.partition(" = ")
    holders = _hands(head)
    total = sum_or_none(modulus, end)
    return None if not is_name(name) or holders is None or total is None else (name, holders, total)
