"""Point [16], and the functions of books.py."""

import unittest
from itertools import product
from random import Random

from quietsums.books import first_leak, is_quiet
from quietsums.errors import InvalidBook
from quietsums.groups import listening
from quietsums.plans import Plan
from quietsums.sums import Sum
from quietsums.watches import learns
from tests.helpers import NO_LISTS, NO_NAMES, NO_SUMS, Plain, example_plan, fails, random_plan, random_sum

X, Y = Sum.of(5, x=1), Sum.of(5, y=1)


def two_owners():
    """Return a plan in which a owns x, b owns y, b gets x + y and tells 2 x + 2 y + 1."""
    steps = [("own", "a", "x"), ("own", "b", "y"), ("send", "b", "a", "y"), ("make", "a", "s", X + Y),
             ("send", "a", "c", "s"), ("make", "c", "t", Sum(5, {"s": 2}, 1)), ("tell", "c", "t")]
    return Plan(5, ["c", "b", "a"], steps)


class Quiet(unittest.TestCase):
    def test_ordinary(self):
        plan = two_owners()
        good = [([], [X + Y]), (["c"], [X * 2 + Y * 2]), (["b"], [X, Y]), (["a", "c"], [X, Y])]
        self.assertIsNone(first_leak(plan, good))
        self.assertIs(is_quiet(plan, good), True)
        self.assertIs(is_quiet(book=tuple(good), plan=plan), True)

    def test_first_leak(self):
        plan = two_owners()
        self.assertEqual(first_leak(plan, [(["c"], [X + Y]), ([], [X])]), (1, X + Y))
        self.assertEqual(first_leak(book=[(["a"], [X]), ([], [])], plan=plan), (0, Y))
        self.assertEqual(first_leak(plan, [(["b", "a"], [Y]), ([], [])]), (0, X))
        self.assertEqual(first_leak(plan, [(["b", "a"], [X + Y])]), (0, X))
        self.assertEqual(first_leak(plan, ((("b",), ()),)), (0, X))
        self.assertIs(is_quiet(plan, [(["c"], [X + Y]), ([], [X])]), False)
        self.assertIs(type(first_leak(plan, [([], [])])), tuple)

    def test_empty_book_and_entries_without_sums(self):
        self.assertIsNone(first_leak(two_owners(), []))
        self.assertIs(is_quiet(two_owners(), ()), True)
        plan = example_plan()
        self.assertIsNone(first_leak(plan, [(["b"], []), ([], ())]))
        self.assertEqual(first_leak(plan, [(["b"], []), (["a"], [])]), (1, X))
        self.assertIsNone(first_leak(Plan(5, ["a"], []), [(["a"], []), ([], [])]))

    def test_what_follows_and_constants(self):
        plan = two_owners()
        self.assertIsNone(first_leak(plan, [([], [X + Y + Sum(5, {}, 3), Sum(5, {}, 2)])]))
        self.assertIsNone(first_leak(plan, [([], [X + Y * 2, X * 2 + Y])]))
        self.assertEqual(first_leak(plan, [([], [X + Y * 2, X * 2 + Y])] + [([], [X + Y * 2])]), (1, X + Y))

    def test_a_group_listens_all_the_time(self):
        plan = Plan(5, ["a", "b"], [("own", "a", "x"), ("send", "a", "b", "x"), ("drop", "b", "x")])
        self.assertEqual(first_leak(plan, [([], []), (["b"], [])]), (1, X))

    def test_against_all_sums(self):
        answers = set()
        for seed in range(150):
            plan, chance = random_plan(seed), Random(seed)
            book = []
            for _ in range(chance.randrange(4)):
                group = chance.sample(plan.hands(), chance.randrange(len(plan.hands()) + 1))
                sums = [random_sum(chance, plan.modulus, plan.own_names()) for _ in range(chance.randrange(3))]
                book.append((group, sums))
            quiet = all(self.is_kept(plan, group, sums) for group, sums in book)
            self.assertIs(is_quiet(plan, book), quiet)
            leak = first_leak(plan, book)
            self.assertEqual(leak is None, quiet)
            answers.add(quiet)
            if leak is not None:
                index, total = leak
                self.assertTrue(all(self.is_kept(plan, *entry) for entry in book[:index]))
                self.assertTrue(learns(plan, listening(plan, book[index][0]), total))
                self.assertNotIn(weights(total), spanned(plan, book[index][1]))
        self.assertEqual(answers, {True, False})

    def is_kept(self, plan, group, sums):
        """Tell whether a group learns nothing but what follows from some sums, by asking for all sums."""
        allowed = spanned(plan, sums)
        names = plan.own_names()
        for numbers in product(range(plan.modulus), repeat=len(names)):
            total = Sum(plan.modulus, dict(zip(names, numbers)))
            if weights(total) not in allowed and learns(plan, listening(plan, group), total):
                return False
        return True

    def test_arguments_stay(self):
        plan, book = two_owners(), [(["c", "b"], [X + Y, Y])]
        self.assertEqual([first_leak(plan, book), first_leak(plan, book)], [None, None])
        self.assertEqual(book, [(["c", "b"], [X + Y, Y])])


def weights(total):
    return tuple(total.weights().items())


def spanned(plan, sums):
    """Return the weights of all sums that some sums span."""
    found = set()
    for numbers in product(range(plan.modulus), repeat=len(sums)):
        total = Sum(plan.modulus, {})
        for number, part in zip(numbers, sums):
            total = total + part * number
        found.add(weights(total))
    return found


class WrongBooks(unittest.TestCase):
    def test_no_list(self):
        for call in (first_leak, is_quiet):
            for value in NO_LISTS:
                fails(self, InvalidBook, call, example_plan(), value, position=None)

    def test_entries(self):
        good = (["a"], [X])
        entries = [None, True, 0, "ab", [["a"], [X]], (), (["a"],), (["a"], [X], [X]), {"a": [X]}, Plain()]
        entries += [(group, [X]) for group in (*NO_LISTS, ["c"], ["x"], ["a", "a"], ["b", "a", "b"], [["a"]], "a")]
        entries += [(["a", name], [X]) for name in NO_NAMES]
        entries += [(["a"], sums) for sums in (*NO_LISTS, X, [Sum.of(7, x=1)], [X, Sum(7, {})], [Sum.of(5, r=1)])]
        entries += [(["a"], [X, Sum.of(5, s=1)]), (["a"], [Sum.of(5, z=1, x=1)]), (["a"], [Sum.of(5, a=1)])]
        entries += [(["a"], [X, value]) for value in NO_SUMS]
        for call in (first_leak, is_quiet):
            for entry in entries:
                fails(self, InvalidBook, call, example_plan(), [good, good, entry, None], position=2)
            fails(self, InvalidBook, call, example_plan(), (["a"], [X]), position=0)


if __name__ == "__main__":
    unittest.main()
