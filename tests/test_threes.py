"""Threes [10]: each function, its edges, its errors, and the guarantees."""

import itertools
import random
import unittest

from eightlots import threes
from eightlots.errors import NoLamp, NoNumber, Unfit
from tests.helper import (EIGHTS, LAMPS, SMALL_LOTS, Case, bits, deep_lists, is_plain_lot, mendings_of, spoiled,
                          sum_lots)

NO_LAMPS = (-1, 24, -24, 10 ** 30, -10 ** 30)
ALL = (1 << 24) - 1
BY_BITS = {bits(eight): eight for eight in EIGHTS}


def reckon_threes():
    """All THREES, ascending: LAMP 0 is in the first EIGHT, the least LAMP that is left in the second one."""
    found = []
    for first in [eight for eight in EIGHTS if eight[0] == 0]:
        lamp = [own for own in LAMPS if own not in first][0]
        for number, second in BY_BITS.items():
            if lamp in second and not number & bits(first):
                third = ALL ^ bits(first) ^ number
                if third in BY_BITS:
                    found.append((first, second, BY_BITS[third]))
    return tuple(sorted(found))


ALL_THREES = reckon_threes()
THREES_SET = frozenset(ALL_THREES)
ALL_FOURS = tuple(sorted(mendings_of(lot) for lot in SMALL_LOTS[4] if lot[0] == 0))
SUMS = {own: frozenset(sum_lots(one, other) for one, other in itertools.combinations(own, 2)) for own in ALL_FOURS}
SAMPLE = random.Random(100).sample(ALL_THREES, 40)


def is_three_by_rule(thing):
    """Whether thing is a THREE, by [3]."""
    if type(thing) is not tuple or len(thing) != 3 or not all(is_plain_lot(own) for own in thing):
        return False
    return thing in THREES_SET


def fours_by_rule(three):
    """The FOURS of which each EIGHT of three is the sum of two LOTS."""
    return [own for own in ALL_FOURS if all(tuple(eight) in SUMS[own] for eight in three)]


class All(Case):

    def test_is_three(self):
        self.assertEqual(len(ALL_THREES), 3795)
        for own in ALL_THREES[::3]:
            self.assertIs(threes.is_three(own), True)
        for own in SAMPLE[:2]:
            self.assert_things(threes.is_three, (), is_three_by_rule, spoiled(own))

    def test_is_three_of_near_things(self):
        source = random.Random(101)
        for own in SAMPLE:
            for order in itertools.permutations(own):
                self.assertIs(threes.is_three(order), order == own)
            self.assertIs(threes.is_three(own[:2]), False)
            self.assertIs(threes.is_three(own + own[:1]), False)
            self.assertIs(threes.is_three((own[0], own[0], own[0])), False)
            # EIGHTS of two THREES, and LOTS of eight LAMPS that are none.
            other = source.choice(ALL_THREES)
            mixed = tuple(sorted((own[0], other[1], other[2])))
            self.assertIs(threes.is_three(mixed), mixed in THREES_SET)
            lamps = own[0] + own[1] + own[2]
            bent = list(lamps)
            bent[0], bent[8] = bent[8], bent[0]
            parts = tuple(sorted(tuple(sorted(bent[k:k + 8])) for k in (0, 8, 16)))
            self.assertIs(threes.is_three(parts), False)
        self.assertIs(threes.is_three(((), LAMPS[:12], LAMPS[12:])), False)

    def test_three_of(self):
        for own in SAMPLE:
            for one, other in itertools.permutations(own, 2):
                self.assert_same(threes.three_of(one, other), own)
                self.assert_same(threes.three_of(list(one), list(other)), own)

    def test_eights_with_a_common_lamp(self):
        source = random.Random(102)
        for one in source.sample(EIGHTS, 40) + [EIGHTS[0]]:
            self.assert_raises(Unfit, {}, threes.three_of, one, one)
            for other in source.sample(EIGHTS, 20):
                if set(one) & set(other):
                    self.assert_raises(Unfit, {}, threes.three_of, one, other)
                else:
                    self.assertIn(threes.three_of(one, other), THREES_SET)

    def test_numbers(self):
        self.assert_same(threes.many_threes(), len(ALL_THREES))
        numbers = [0, 1, 14, 15, 16, 29, 30, 3779, 3780, 3793, 3794] + list(range(7, 3795, 41))
        for number in numbers:
            self.assert_same(threes.three_by_number(number), ALL_THREES[number])
            self.assert_same(threes.number_of_three(ALL_THREES[number]), number)

    def test_no_number(self):
        for number in (-1, 3795, -3795, 3796, 10 ** 30, -10 ** 30):
            self.assert_raises(NoNumber, {"number": number}, threes.three_by_number, number)


class Parts(Case):

    def test_beside_and_threes_with(self):
        for eight in EIGHTS[::29] + EIGHTS[-1:]:
            beside = tuple(sorted(own for own in EIGHTS if not set(own) & set(eight)))
            self.assert_same(threes.beside(eight), beside)
            with_it = [own for own in ALL_THREES if eight in own]
            self.assert_same(threes.threes_with(eight), with_it)
            self.assert_same(threes.threes_with(list(eight)), with_it)
            self.assertEqual(len(beside), 2 * len(with_it))
            for own in beside:
                self.assertEqual(len([three for three in with_it if own in three]), 1)

    def test_eight_with(self):
        for own in SAMPLE[:15] + [deep_lists(SAMPLE[15])]:
            for lamp in LAMPS:
                self.assert_same(threes.eight_with(own, lamp), [tuple(one) for one in own if lamp in one][0])
            for lamp in NO_LAMPS:
                self.assert_raises(NoLamp, {"lamp": lamp}, threes.eight_with, own, lamp)
                self.assert_raises(NoLamp, {"lamp": lamp}, threes.eight_with, lamp=lamp, three=own)


class WithFours(Case):

    def test_fours_of_three(self):
        for own in SAMPLE[:25]:
            expected = fours_by_rule(own)
            self.assert_same(threes.fours_of_three(own), expected)
            self.assertEqual(len(expected), 7)
            for fours in expected:
                self.assertIn(own, threes.threes_of_fours(fours))
        self.assert_same(threes.fours_of_three(deep_lists(SAMPLE[3])), fours_by_rule(SAMPLE[3]))

    def test_threes_of_fours(self):
        source = random.Random(103)
        for fours in source.sample(ALL_FOURS, 25) + [ALL_FOURS[0], ALL_FOURS[-1]]:
            expected = [own for own in ALL_THREES if all(eight in SUMS[fours] for eight in own)]
            self.assert_same(threes.threes_of_fours(fours), expected)
            self.assert_same(threes.threes_of_fours(deep_lists(fours)), expected)
            self.assertEqual(len(expected), 15)

    def test_each_is_of_the_other(self):
        source = random.Random(104)
        for fours in source.sample(ALL_FOURS, 8):
            found = threes.threes_of_fours(fours)
            for own in found[:4] + SAMPLE[:4]:
                self.assertEqual(fours in threes.fours_of_three(own), own in found)

    def test_fours_of_both(self):
        source = random.Random(105)
        pairs = [(own, own) for own in SAMPLE[:2]]
        for own in SAMPLE[:10]:
            pairs.append((own, source.choice([far for far in ALL_THREES if set(far) & set(own)])))
            pairs.append((own, source.choice(ALL_THREES)))
        for three, far in pairs:
            expected = [fours for fours in fours_by_rule(three) if fours in fours_by_rule(far)]
            self.assert_same(threes.fours_of_both(three, far), expected)
            self.assert_same(threes.fours_of_both(far, three), expected)
            if set(three) & set(far):
                self.assertTrue(expected)

    def test_three_table(self):
        for k, own in enumerate(SAMPLE):
            far = SAMPLE[k - 1]
            table = tuple(tuple(len(set(one) & set(other)) for other in far) for one in own)
            self.assert_same(threes.three_table(own, far), table)
            self.assert_same(threes.three_table(deep_lists(own), deep_lists(far)), table)
        self.assert_same(threes.three_table(SAMPLE[0], SAMPLE[0]), ((8, 0, 0), (0, 8, 0), (0, 0, 8)))


if __name__ == "__main__":
    unittest.main()
