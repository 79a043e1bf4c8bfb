"""What the tests share: calls that must fail, and values of other kinds."""

from itertools import product

from quietsums.sums import Sum

MODULI = (2, 3, 5, 7, 11, 13)


class Plain:
    """An object without anything, not even a hash."""

    __hash__ = None


# Values of all kinds. Each test leaves out those that are valid where it uses them.
NO_DICTS = (None, True, False, 0, 1, -1, "", "x", b"x", [], (), [1], ("x", 1), [("x", 1)], {1: 2}.items(), Plain())
NO_LISTS = (None, True, False, 0, 3, "", "ab", b"ab", {}, {"a": 1}, range(2), {"a"}, Plain())
NO_INTEGERS = (None, True, False, "", "1", b"1", [], [1], (), (1,), {}, {1: 1}, Plain())
NO_NAMES = (None, True, False, 0, 5, "", "X", "1x", "x y", "x_", "xé", "é", "x\n", " x", "x ", "abcdefghijklm",
            b"x", [], ["x"], (), ("x",), {}, {"x": 1}, Plain())
NO_SUMS = (None, True, False, 0, 1, "", "x", b"x", [], (), {}, {"x": 1}, Sum, Plain())
NO_MODULI = (None, True, False, 0, 1, -2, 4, 6, 8, 9, 15, 17, "5", b"5", [], [5], (5,), {}, {5: 5}, Plain())


def fails(case, error, call, *arguments, **wanted):
    """Check that a call raises just this error, with these attributes of these kinds."""
    with case.assertRaises(error) as caught:
        call(*arguments)
    case.assertIs(type(caught.exception), error)
    for name, value in wanted.items():
        found = getattr(caught.exception, name)
        case.assertIs(type(found), type(value), (name, found, value))
        case.assertEqual(found, value)


def world_list(modulus, names):
    """Return all worlds for some names."""
    return [dict(zip(names, numbers)) for numbers in product(range(modulus), repeat=len(names))]


def random_sum(chance, modulus, names, constant=True):
    weights = {name: chance.randrange(modulus) for name in names if chance.random() < 0.7}
    return Sum(modulus, weights, chance.randrange(modulus) if constant else 0)
