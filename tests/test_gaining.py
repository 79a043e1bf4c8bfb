"""Point [30], and the functions of gaining.py."""

import unittest
from random import Random

from quietsums.around import form_of
from quietsums.demands import Demands, least_ladder
from quietsums.doors import Doors
from quietsums.errors import Contradiction, InvalidGroup, TiedIns
from quietsums.gaining import both, either, gains
from quietsums.ladders import Ladder
from quietsums.spaces import Relations, Space
from quietsums.sums import Sum
from tests.door_helpers import door_sums, random_doors, random_ladder, random_part
from tests.helpers import NO_LISTS, fails

X, Y, Z = Sum.of(3, x=1), Sum.of(3, y=1), Sum.of(3, z=1)
ONE = Sum(3, {}, 1)


def ladder_of(relations, must, doors=None):
    doors = doors or Doors(3, ["a", "b"], {"x": ["a"], "y": ["b"]}, {"z": ["b"]})
    return least_ladder(Demands(doors, relations, must))


class Gains(unittest.TestCase):
    def test_ordinary(self):
        ladder = ladder_of([Z - X], [([], X + Y), (["a"], Z), (["b"], X + Y)])
        self.assertEqual([gains(ladder, []), gains(ladder, ["a"]), gains(ladder, ["b"]), gains(ladder, ("b", "a"))],
                         [[Y + Z], [], [], []])
        self.assertEqual(gains(ladder_of([], [(["a"], Z), (["b"], X)]), ["a"]), [Z])
        self.assertEqual(gains(group=["b"], ladder=ladder_of([], [(["a"], Z), (["b"], X)])), [X])
        self.assertEqual(gains(ladder_of([], []), ["b", "a"]), [])

    def test_the_sums_of_the_basis(self):
        doors = Doors(3, ["a", "b"], {"w": ["b"], "x": ["b"], "y": ["b"], "z": ["a"]}, {})
        ladder = ladder_of([], [(["a"], X + Y + Z), (["a"], Sum.of(3, w=1, y=2, x=2)), ([], Sum.of(3, w=1, x=1))], doors)
        self.assertEqual(ladder.space(["a"]).basis(), [Sum.of(3, w=1), X, Y, Z])
        self.assertEqual(gains(ladder, ["a"]), [Sum.of(3, w=1), Y])
        self.assertEqual(gains(ladder, []), [Sum.of(3, w=1, x=1)])

    def test_the_group_of_all_hands(self):
        doors = Doors(3, ["a"], {"x": ["a"]}, {"y": ["a"]})
        self.assertEqual([gains(ladder_of([], [], doors), ["a"]), gains(ladder_of([], [], doors), [])], [[], []])
        empty = Doors(3, ["a", "b"], {}, {})
        self.assertEqual(gains(ladder_of([], [], empty), ["a", "b"]), [])

    def test_by_the_words(self):
        some = 0
        for seed in range(150):
            ladder = random_ladder(seed) if seed % 2 else form_of(random_part(seed))
            for group in ladder.doors.groups():
                found = gains(ladder, list(reversed(group)))
                self.assertEqual(found, self.by_the_words(ladder, group))
                some += len(found) > 0
        self.assertGreater(some, 40)

    def by_the_words(self, ladder, group):
        modulus = ladder.doors.modulus
        sums = ladder.relations.basis() + [Sum(modulus, {name: 1}) for name in ladder.doors.held(group)]
        for smaller in ladder.doors.groups():
            if set(smaller) < set(group):
                sums += ladder.space(smaller).basis()
        found = []
        for total in ladder.space(group).basis():
            if total not in Space(modulus, sums + found):
                found.append(total)
        return found

    def test_they_make_the_ladder_again(self):
        for seed in range(100):
            ladder = random_ladder(seed) if seed % 2 else form_of(random_part(seed))
            must = [(group, total) for group in ladder.doors.groups() for total in gains(ladder, group)]
            self.assertEqual(least_ladder(Demands(ladder.doors, ladder.relations.basis(), must)), ladder)

    def test_new_lists_each_time(self):
        ladder = ladder_of([], [(["a"], Z)])
        gains(ladder, ["a"]).clear()
        self.assertEqual(gains(ladder, ["a"]), [Z])

    def test_wrong(self):
        for value in (*NO_LISTS, ["c"], ["a", "a"], [None], [["a"]]):
            fails(self, InvalidGroup, gains, ladder_of([], []), value, value=value)


class EitherAndBoth(unittest.TestCase):
    def test_ordinary(self):
        one, other = ladder_of([Z - X], [([], X + Y)]), ladder_of([], [(["a"], Z - Y)])
        most, least = either(one, other), both(one, other)
        self.assertEqual([most.relations, least.relations], [Relations(3, [Z - X]), Relations(3, [])])
        self.assertEqual([most.space([]), least.space([])], [Space(3, [Z - X, X + Y]), Space(3, [])])
        self.assertEqual([most.space(["a"]), least.space(["a"])], [Space(3, [X, Y, Z]), Space(3, [X, Z - Y])])
        self.assertEqual([either(other=one, one=other), both(other=one, one=other)], [most, least])

    def test_equal_ladders(self):
        for seed in range(20):
            ladder = random_ladder(seed)
            self.assertEqual([either(ladder, ladder), both(ladder, ladder)], [ladder, ladder])

    def test_by_all_sums(self):
        for seed in range(100):
            doors = random_doors(Random(seed), 2, 3)
            one, other = random_ladder(seed, doors), random_ladder(seed + 1000, doors)
            sums = door_sums(doors, range(doors.modulus))
            least = both(one, other)
            for group in doors.groups():
                for total in sums:
                    self.assertEqual(total in least.space(group), total in one.space(group) and total in other.space(group))
            for total in sums:
                self.assertEqual(total in least.relations, total in one.relations and total in other.relations)
            try:
                most = either(one, other)
            except (Contradiction, TiedIns):
                continue
            self.assertEqual(most.relations, Relations(doors.modulus, one.relations.basis() + other.relations.basis()))
            for group in doors.groups():
                spanned = Space(doors.modulus, one.space(group).basis() + other.space(group).basis())
                self.assertEqual(most.space(group), spanned)
            self.assertEqual(Ladder(doors, most.relations, dict(most.walk())), most)

    def test_contradiction_and_tied_ins(self):
        one = ladder_of([Z - X], [])
        fails(self, Contradiction, either, one, ladder_of([Z - X + ONE], []), number=1)
        fails(self, TiedIns, either, one, ladder_of([Z - Y + ONE], []), relation=X - Y + ONE)
        doors = Doors(3, ["a"], {"x": ["a"]}, {"y": ["a"], "z": ["a"]})
        contradicting = [ladder_of(sums, [], doors) for sums in ([Y - X, Z], [Y, Z + ONE])]
        fails(self, Contradiction, either, *contradicting, number=1)
        self.assertEqual(both(*contradicting).relations, Relations(3, []))


if __name__ == "__main__":
    unittest.main()
