"""Questions about plain values: integers, numbers, names, worlds, shifts, hands and groups."""

from quietsums.errors import InvalidGroup, InvalidHands, InvalidModulus, InvalidNames, InvalidWorld, MissingNumber

PRIMES = (2, 3, 5, 7, 11, 13)
LETTERS = "abcdefghijklmnopqrstuvwxyz"
NAME_SIGNS = "abcdefghijklmnopqrstuvwxyz0123456789"
LONGEST_NAME = 12


def is_list(value):
    """Tell whether a value may stand where the document says list."""
    return isinstance(value, (list, tuple))


def is_integer(value):
    """Tell whether a value is an integer; True and False are none."""
    return isinstance(value, int) and not isinstance(value, bool)


def is_number(modulus, value):
    """Tell whether a value is a number of the modulus."""
    return is_integer(value) and 0 <= value < modulus


def is_name(value):
    """Tell whether a value is a NAME."""
    if not isinstance(value, str) or not 1 <= len(value) <= LONGEST_NAME:
        return False
    # What strip leaves begins with a sign that no name contains.
    return value[0] in LETTERS and value.strip(NAME_SIGNS) == ""


def is_world(modulus, value):
    """Tell whether a value is a dict from NAMEs to numbers of the modulus."""
    if not isinstance(value, dict):
        return False
    return all([is_name(name) and is_number(modulus, number) for name, number in value.items()])


def is_shift(modulus, value):
    """Tell whether a value is a dict from NAMEs to numbers of the modulus other than 0."""
    return is_world(modulus, value) and all([number != 0 for number in value.values()])


def is_known(value, names):
    """Tell whether a value is one of some names; it may be of any kind, also without a hash."""
    return isinstance(value, str) and value in names


def is_group(value, hands):
    """Tell whether a value is a list of different ones of some hands."""
    if not is_list(value) or not all([is_known(hand, hands) for hand in value]):
        return False
    return len(set(value)) == len(value)


def is_tuple_of(value, length):
    """Tell whether a value is a tuple of this length."""
    return isinstance(value, tuple) and len(value) == length


def require_group(group, hands):
    """Raise InvalidGroup unless the value is a list of different ones of some hands."""
    if not is_group(group, hands):
        raise InvalidGroup(group)


def require_modulus(value):
    """Raise InvalidModulus unless the value is a modulus."""
    if not is_integer(value) or value not in PRIMES:
        raise InvalidModulus(value)


def require_names(names):
    """Raise InvalidNames unless the value is a list of NAMEs."""
    if not is_list(names):
        raise InvalidNames(None)
    for position, name in enumerate(names):
        if not is_name(name):
            raise InvalidNames(position)


def require_numbers(modulus, names, world):
    """Raise an error unless the value is a world in which all of the names have numbers."""
    if not is_world(modulus, world):
        raise InvalidWorld(world)
    for name in names:
        if name not in world:
            raise MissingNumber(name)


def require_hands(hands, most, least=1):
    """Raise InvalidHands unless the value is a list of different hands that is neither too long nor too short."""
    if not is_list(hands) or not least <= len(hands) <= most:
        raise InvalidHands(None)
    for position, hand in enumerate(hands):
        if not is_name(hand) or hand in hands[:position]:
            raise InvalidHands(position)
