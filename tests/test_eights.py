"""Eights [7]: each function, its edges, its errors, and the guarantees."""

import itertools
import math
import random
import unittest

from eightlots import eights
from eightlots.board import board_shuffle
from eightlots.errors import NoNumber, NoPaper, Unfit
from tests.helper import (EIGHTS, LAMPS, RIGHT, RIGHT_SET, WORDS, Case, counts_of, is_plain_lot, some_lots, spoiled,
                          sum_lots)
from tests.test_signs import true_shifts

EIGHT_SET = frozenset(EIGHTS)


def shares(one, other):
    """How many LAMPS both have."""
    return len(set(one) & set(other))


def is_eight_by_rule(thing):
    """Whether thing is an EIGHT."""
    return is_plain_lot(thing) and thing in EIGHT_SET


class All(Case):

    def test_all_eights(self):
        self.assert_same(eights.all_eights(), sorted(EIGHTS))
        self.assertEqual(len(EIGHTS), 759)

    def test_numbers_of_all(self):
        for number, eight in enumerate(sorted(EIGHTS)):
            self.assert_same(eights.eight_number(eight), number)
            self.assert_same(eights.eight_at(number), eight)

    def test_no_number(self):
        for number in (-1, 759, -759, 10 ** 30, -10 ** 30):
            self.assert_raises(NoNumber, {"number": number}, eights.eight_at, number)

    def test_is_eight(self):
        for lot in RIGHT:
            self.assertIs(eights.is_eight(lot), len(lot) == 8)
        for lot in some_lots(31, 500):
            self.assertIs(eights.is_eight(lot), lot in EIGHT_SET)
        for eight in (EIGHTS[0], EIGHTS[300], EIGHTS[758]):
            self.assert_things(eights.is_eight, (), is_eight_by_rule, spoiled(eight))

    def test_truths_are_no_lamps(self):
        self.assertIn((0, 1, 2, 3, 4, 5, 6, 7), EIGHT_SET)
        self.assertIs(eights.is_eight((False, 1, 2, 3, 4, 5, 6, 7)), False)
        self.assertIs(eights.is_eight((0, True, 2, 3, 4, 5, 6, 7)), False)


class Five(Case):

    def test_each_five_are_in_one_eight(self):
        by_five = {}
        for eight in EIGHTS:
            for five in itertools.combinations(eight, 5):
                self.assertNotIn(five, by_five)
                by_five[five] = eight
        self.assertEqual(len(by_five), math.comb(24, 5))
        for five in sorted(by_five)[::11] + list(itertools.combinations(EIGHTS[400], 5)):
            self.assert_same(eights.eight_of(five), by_five[five])

    def test_not_five(self):
        for lot in some_lots(32, 100):
            if len(lot) != 5:
                self.assert_raises(Unfit, {}, eights.eight_of, lot)
                self.assert_raises(Unfit, {}, eights.eight_of, list(lot))


class With(Case):

    def test_with_and_without(self):
        source = random.Random(33)
        pairs = [((), ()), (LAMPS, ()), ((), LAMPS), ((0,), (0,)), ((3, 5), (5,)), (EIGHTS[7], ()), ((), EIGHTS[7]),
                 (EIGHTS[7][:5], EIGHTS[7][5:]), (EIGHTS[7][:4], (EIGHTS[7][4],))]
        while len(pairs) < 150:
            many, few = source.randrange(7), source.randrange(7)
            lamps = source.sample(LAMPS, many + few)
            pairs.append((tuple(sorted(lamps[:many])), tuple(sorted(lamps[many:]))))
        for lot, other in pairs:
            expected = [own for own in EIGHTS if set(lot) <= set(own) and not shares(own, other)]
            self.assert_same(eights.eights_with(lot, other), sorted(expected))
            self.assert_same(eights.how_many_with(lot, other), len(expected))

    def test_many_hang_on_sizes_alone(self):
        source = random.Random(34)
        known = {}
        for _ in range(400):
            own = list(source.choice(EIGHTS))
            source.shuffle(own)
            many = source.randrange(9)
            all_size = source.randrange(many, 9)
            lot, other = tuple(sorted(own[:many])), tuple(sorted(own[many:all_size]))
            size = eights.how_many_with(lot, other)
            self.assertEqual(known.setdefault((len(lot), len(other)), size), size)

    def test_shared_lamps(self):
        source = random.Random(35)
        for _ in range(500):
            one, near = source.choice(EIGHTS), source.choice(EIGHTS)
            expected = tuple(lamp for lamp in one if lamp in near)
            self.assert_same(eights.shared_lamps(one, near), expected)
            self.assertIn(len(expected), (0, 2, 4) if one != near else (8,))
            if len(expected) == 4:
                self.assertTrue(eights.is_eight(sum_lots(one, near)))
        self.assert_same(eights.shared_lamps(EIGHTS[3], EIGHTS[3]), EIGHTS[3])


class Counts(Case):

    def test_counts(self):
        for lot in some_lots(36, 120):
            found = eights.counts(lot)
            self.assert_same(found, counts_of(lot))
            self.assertEqual(sum(found), 759)
            fives = sum(many * math.comb(k, 5) for k, many in enumerate(found))
            self.assertEqual(fives, math.comb(len(lot), 5))
        self.assert_same(eights.counts(()), (759,) + (0,) * 8)
        self.assert_same(eights.counts(LAMPS), (0,) * 8 + (759,))

    def test_counts_stay_led_by_keeping_shuffles(self):
        source = random.Random(37)
        for shift in true_shifts(37, 15):
            shuffle = board_shuffle(shift, source.choice(WORDS))
            for lot in some_lots(source.random(), 12):
                led = tuple(sorted(shuffle[lamp] for lamp in lot))
                self.assertEqual(eights.counts(led), eights.counts(lot))

    def test_fullest(self):
        self.assert_same(eights.fullest(()), sorted(EIGHTS))
        self.assert_same(eights.fullest(LAMPS), sorted(EIGHTS))
        for lot in some_lots(38, 80) + list(EIGHTS[::100]):
            most = max(shares(own, lot) for own in EIGHTS)
            self.assert_same(eights.fullest(lot), sorted(own for own in EIGHTS if shares(own, lot) == most))


class Odd(Case):

    def test_met_evenly_or_an_odd_eight(self):
        for lot in some_lots(39, 200) + list(RIGHT[::40]):
            odd = [own for own in EIGHTS if shares(own, lot) % 2]
            self.assertIs(eights.is_met_evenly(lot), not odd)
            self.assertEqual(not odd, lot in RIGHT_SET)
            if odd:
                told = eights.odd_eight(lot)
                self.assertIs(type(told), tuple)
                self.assertIn(told, odd)
                self.assert_same(eights.odd_eight(list(lot)), told)
                self.assertIs(eights.is_odd_eight(lot, told), True)
            else:
                self.assert_raises(NoPaper, {}, eights.odd_eight, lot)

    def test_is_odd_eight_of_all(self):
        for lot in some_lots(40, 40):
            for own in EIGHTS[::13]:
                self.assertIs(eights.is_odd_eight(lot, own), shares(own, lot) % 2 == 1)
            for own in RIGHT[::97] + ((0,), (3, 5)):
                expected = own in EIGHT_SET and shares(own, lot) % 2 == 1
                self.assertIs(eights.is_odd_eight(lot, own), expected)

    def test_is_odd_eight_of_things(self):
        for lot in ((3, 7, 11), (), (0, 1, 4, 20)):
            def expected(thing):
                return is_eight_by_rule(thing) and shares(thing, lot) % 2 == 1
            for own in (EIGHTS[0], EIGHTS[301]):
                self.assert_things(eights.is_odd_eight, (lot,), expected, spoiled(own) + [own])


if __name__ == "__main__":
    unittest.main()
