"""Fours [9]: each function, its edges, its errors, and the guarantees."""

import itertools
import random
import unittest

from eightlots import fours
from eightlots.eights import eight_of
from eightlots.errors import NoLamp, NoNumber, Unfit
from tests.helper import (EIGHTS, LAMPS, RIGHT_SET, SMALL_LOTS, Case, deep_lists, is_plain_lot, mendings_of,
                          some_lots, spoiled, sum_lots)

NO_LAMPS = (-1, 24, -24, 10 ** 30, -10 ** 30)
ALL_FOURS = tuple(mendings_of(lot) for lot in SMALL_LOTS[4] if lot[0] == 0)
FOURS_SET = frozenset(ALL_FOURS)
SAMPLE = random.Random(70).sample(ALL_FOURS, 60)


def shares(one, other):
    """How many LAMPS both have."""
    return len(set(one) & set(other))


def is_fours_by_rule(thing):
    """Whether thing are FOURS, by [3]."""
    if type(thing) is not tuple or len(thing) != 6 or not all(is_plain_lot(lot) and len(lot) == 4 for lot in thing):
        return False
    if list(thing) != sorted(thing) or sorted(lamp for lot in thing for lamp in lot) != list(LAMPS):
        return False
    return all(sum_lots(one, other) in EIGHTS for one, other in itertools.combinations(thing, 2))


class All(Case):

    def test_fours_of(self):
        self.assertEqual(len(FOURS_SET), 1771)
        for lot in SMALL_LOTS[4][::9]:
            found = fours.fours_of(lot)
            self.assertIn(found, FOURS_SET)
            self.assertIn(lot, found)
            self.assertTrue(is_fours_by_rule(found))
        for own in SAMPLE:
            for lot in own:
                self.assert_same(fours.fours_of(lot), own)
                self.assert_same(fours.fours_of(list(lot)), own)

    def test_not_four(self):
        for lot in some_lots(71, 80):
            if len(lot) != 4:
                self.assert_raises(Unfit, {}, fours.fours_of, lot)

    def test_numbers_of_all(self):
        self.assert_same(fours.many_fours(), len(FOURS_SET))
        for number, own in enumerate(sorted(ALL_FOURS)):
            self.assert_same(fours.fours_by_number(number), own)
            self.assert_same(fours.number_of_fours(own), number)

    def test_no_number(self):
        for number in (-1, 1771, -1771, 10 ** 30, -10 ** 30):
            self.assert_raises(NoNumber, {"number": number}, fours.fours_by_number, number)

    def test_is_fours(self):
        for own in ALL_FOURS:
            self.assertIs(fours.is_fours(own), True)
        for own in SAMPLE[:2]:
            self.assert_things(fours.is_fours, (), is_fours_by_rule, spoiled(own))

    def test_is_fours_of_near_things(self):
        columns = tuple(LAMPS[k:k + 4] for k in range(0, 24, 4))
        self.assertIs(fours.is_fours(columns), True)
        source = random.Random(72)
        for own in SAMPLE:
            self.assertIs(fours.is_fours(own[1:] + own[:1]), False)
            self.assertIs(fours.is_fours(own[:5]), False)
            lamps = [lamp for lot in own for lamp in lot]
            for place in source.sample(range(20), 4):
                bent = list(lamps)
                bent[place], bent[place + 4] = bent[place + 4], bent[place]
                parts = sorted(tuple(sorted(bent[k:k + 4])) for k in range(0, 24, 4))
                self.assertIs(fours.is_fours(tuple(parts)), False)
        # LOTS of unlike sizes; a LAMP twice and another one never.
        self.assertIs(fours.is_fours(((0, 1, 2), (3, 4, 5, 6, 7)) + columns[2:]), False)
        self.assertIs(fours.is_fours((columns[0],) + columns[:5]), False)
        self.assertIs(fours.is_fours((columns[0], columns[1]) + columns[1:5]), False)
        self.assertIs(fours.is_fours(columns[1:] + columns[5:]), False)
        self.assertIs(fours.is_fours(((), (), (), LAMPS[:8], LAMPS[8:16], LAMPS[16:])), False)
        self.assertIs(fours.is_fours(((),) * 5 + (LAMPS,)), False)


class Parts(Case):

    def test_lot_with_and_in_one(self):
        for own in SAMPLE[:12] + [deep_lists(SAMPLE[12])]:
            for lamp in LAMPS:
                lot = [tuple(one) for one in own if lamp in one][0]
                self.assert_same(fours.lot_with(own, lamp), lot)
                for mate in LAMPS:
                    self.assert_same(fours.in_one(own, lamp, mate), mate in lot)

    def test_no_lamps(self):
        own = SAMPLE[0]
        for lamp in NO_LAMPS:
            self.assert_raises(NoLamp, {"lamp": lamp}, fours.lot_with, own, lamp)
            self.assert_raises(NoLamp, {"lamp": lamp}, fours.in_one, own, lamp, 3)
            self.assert_raises(NoLamp, {"lamp": lamp}, fours.in_one, own, 3, lamp)
            self.assert_raises(NoLamp, {"lamp": lamp}, fours.in_one, own, lamp, 99)
            self.assert_raises(NoLamp, {"lamp": lamp}, fours.in_one, fours=own, mate=98, lamp=lamp)

    def test_eights_of_fours(self):
        for own in SAMPLE:
            expected = {sum_lots(one, other) for one, other in itertools.combinations(own, 2)}
            found = fours.eights_of_fours(own)
            self.assert_same(found, tuple(sorted(expected)))
            self.assertTrue(len(found) == 15 and all(eight in EIGHTS for eight in found))

    def test_fours_in(self):
        sums = {own: {sum_lots(one, other) for one, other in itertools.combinations(own, 2)} for own in ALL_FOURS}
        for eight in EIGHTS[::70] + EIGHTS[-1:]:
            expected = sorted(own for own in ALL_FOURS if eight in sums[own])
            self.assert_same(fours.fours_in(eight), expected)
            self.assert_same(fours.fours_in(list(eight)), expected)
            self.assertEqual(len(expected), 35)

    def test_a_lot_and_another_lamp(self):
        for own in SAMPLE[:20]:
            for lot, lamp in itertools.product(own, LAMPS):
                if lamp not in lot:
                    eight = eight_of(tuple(sorted(lot + (lamp,))))
                    self.assertEqual(fours.shared(own, eight).count(4), 2)
                    self.assertEqual(sum_lots(lot, eight), fours.lot_with(own, lamp))


class Meetings(Case):

    def test_shared(self):
        for own in SAMPLE[:10]:
            for lot in some_lots(73, 60):
                self.assert_same(fours.shared(own, lot), tuple(shares(one, lot) for one in own))
            for eight in EIGHTS[::9]:
                numbers = fours.shared(own, eight)
                self.assertIn(tuple(sorted(set(numbers))), ((0, 4), (0, 2), (1, 3)))
        self.assert_same(fours.shared(SAMPLE[0], ()), (0,) * 6)
        self.assert_same(fours.shared(SAMPLE[0], LAMPS), (4,) * 6)

    def test_tables_and_meetings(self):
        seen = {}
        pairs = [(one, SAMPLE[k - 1]) for k, one in enumerate(SAMPLE)] + [(one, one) for one in SAMPLE[:3]]
        pairs += [(one, other) for one in SAMPLE[:2] for other in ALL_FOURS[::8]]
        for one, other in pairs:
            table = tuple(tuple(shares(near, far) for far in other) for near in one)
            self.assert_same(fours.shared_table(one, other), table)
            meeting = tuple(sorted({many for row in table for many in row}))
            self.assert_same(fours.meeting(one, other), meeting)
            shape = sorted(tuple(sorted(row)) for row in table)
            self.assertEqual(seen.setdefault(meeting, shape), shape)
            self.assertEqual(sorted(tuple(sorted(row)) for row in fours.shared_table(other, one)), shape)
        self.assertEqual(len(seen), 4)

    def test_refined(self):
        for k, one in enumerate(SAMPLE):
            other = SAMPLE[k - 1]
            parts = {tuple(sorted(set(near) & set(far))) for near in one for far in other} - {()}
            self.assert_same(fours.refined(one, other), tuple(sorted(parts)))
            self.assert_same(fours.refined(one, one), one)

    def test_lists_within_lists(self):
        one, other = SAMPLE[:2]
        for function in (fours.refined, fours.meeting, fours.shared_table):
            self.assert_same(function(deep_lists(one), deep_lists(other)), function(one, other))
        self.assert_same(fours.eights_of_fours(deep_lists(one)), fours.eights_of_fours(one))
        self.assert_same(fours.number_of_fours(deep_lists(one)), fours.number_of_fours(one))


if __name__ == "__main__":
    unittest.main()
