"""Mending [8]: each function, its edges, its errors, and the guarantees."""

import itertools
import random
import unittest

from eightlots import mending
from eightlots.errors import NoLamp, NoNumber, NoWay
from tests.helper import (EIGHTS, LAMPS, RIGHT, RIGHT_BITS, RIGHT_SET, SMALL_LOTS, Case, bits, is_plain_lot,
                          is_plain_right, mendings_of, some_lots, spoiled, sum_lots)

NO_LAMPS = (-1, 24, -24, 10 ** 30, -10 ** 30)
HARD = (3, 7, 8, 9, 14, 20)


def lots_to_mend(seed):
    """LOTS of all kinds, also of three, four and five LAMPS, and near right ones."""
    source = random.Random(seed)
    lots = some_lots(seed, 100)
    for size in (1, 2, 3, 4, 5):
        lots += [tuple(sorted(source.sample(LAMPS, size))) for _ in range(15)]
        lots += [sum_lots(source.choice(RIGHT), tuple(sorted(source.sample(LAMPS, size)))) for _ in range(15)]
    return lots + [source.choice(RIGHT) for _ in range(10)]


def fills(lot, gaps, right):
    """Whether a right LOT fills lot at gaps, by [8]."""
    return all((lamp in right) == (lamp in lot) for lamp in LAMPS if lamp not in gaps)


def bars(lot, gaps, right):
    """Whether a right LOT is a BAR, by [8]."""
    return not set(right) & set(gaps) and len(set(right) & set(lot)) % 2 == 1


def lots_with_gaps(seed):
    """Pairs (lot, gaps): no gaps, seven gaps, all, and others; some can be filled and some can not."""
    source = random.Random(seed)
    pairs = [((), ()), (LAMPS, ()), ((), LAMPS), (LAMPS, LAMPS), ((3, 4), LAMPS), ((0,), LAMPS[1:]), ((0,), ())]
    for lot in some_lots(seed, 60):
        for size in (0, 1, 7, 8, 12, 16, 20, 23):
            gaps = tuple(sorted(source.sample(LAMPS, size)))
            pairs.append((lot, gaps))
            changes = tuple(lamp for lamp in gaps if source.random() < 0.5)
            pairs.append((sum_lots(source.choice(RIGHT), changes), gaps))
    return pairs


class Mendings(Case):

    def test_mendings(self):
        for lot in lots_to_mend(51):
            expected = mendings_of(lot)
            self.assert_same(mending.mendings(lot), sorted(expected))
            self.assert_same(mending.how_far(lot), len(expected[0]))
            self.assert_same(mending.is_hard(lot), len(expected) > 1)
            self.assertIn((len(expected), len(expected[0])), ((1, 0), (1, 1), (1, 2), (1, 3), (6, 4)))

    def test_a_small_lot_is_its_own(self):
        for lot in itertools.chain(*SMALL_LOTS[:4]):
            self.assert_same(mending.mendings(lot), [lot])
        for lot in SMALL_LOTS[4][::7]:
            found = mending.mendings(lot)
            self.assertEqual((len(found), lot in found), (6, True))
            self.assertTrue(all(bits(lot) ^ bits(own) in RIGHT_BITS for own in found))

    def test_lots_of_one_rest(self):
        source = random.Random(52)
        lots = some_lots(52, 80)
        for lot in lots:
            near = sum_lots(lot, source.choice(RIGHT))
            self.assert_same(mending.mendings(near), mending.mendings(lot))
            self.assert_same(mending.same_rest(lot, near), True)
            other = source.choice(lots)
            one_rest = sum_lots(lot, other) in RIGHT_SET
            self.assert_same(mending.same_rest(lot, other), one_rest)
            common = [own for own in mending.mendings(lot) if own in mending.mendings(other)]
            self.assertEqual(bool(common), one_rest)

    def test_mending_is_one_and_the_same_again(self):
        for lot in lots_to_mend(53):
            told = mending.mending(lot)
            self.assertIn(told, mendings_of(lot))
            self.assertIs(type(told), tuple)
            self.assert_same(mending.mending(list(lot)), told)
            self.assert_same(mending.mending(lot=lot), told)

    def test_is_mending(self):
        for lot in lots_to_mend(54)[::3]:
            own = mendings_of(lot)
            for small in itertools.chain(own, SMALL_LOTS[4][::501], SMALL_LOTS[3][::301], RIGHT[::999], [lot, LAMPS]):
                self.assertIs(mending.is_mending(lot, small), small in own)

    def test_is_mending_of_things(self):
        for lot in (HARD, (), (1, 2, 4, 8, 16), LAMPS[:7], (0, 1, 2, 8)):
            def expected(thing):
                return is_plain_lot(thing) and thing in mendings_of(lot)
            for own in mendings_of(lot)[:2]:
                self.assert_things(mending.is_mending, (lot,), expected, spoiled(own) + [own])

    def test_nearest(self):
        for lot in lots_to_mend(55):
            expected = sorted(sum_lots(lot, own) for own in mendings_of(lot))
            self.assert_same(mending.nearest(lot), expected)
        for lot in some_lots(56, 45):
            apart = {right: len(set(right) ^ set(lot)) for right in RIGHT}
            least = min(apart.values())
            self.assert_same(mending.nearest(lot), [right for right in sorted(RIGHT) if apart[right] == least])

    def test_mending_with(self):
        for lot in lots_to_mend(57)[::2]:
            for lamp in LAMPS:
                own = [one for one in mendings_of(lot) if lamp in one]
                if own:
                    self.assert_same(mending.mending_with(lot, lamp), own[0])
                    self.assertEqual(len(own), 1)
                else:
                    self.assertLess(mending.how_far(lot), 4)
                    self.assert_raises(NoWay, {}, mending.mending_with, lot, lamp)

    def test_mending_with_no_lamp(self):
        for lamp in NO_LAMPS:
            for lot in (HARD, (), (1, 2, 3)):
                self.assert_raises(NoLamp, {"lamp": lamp}, mending.mending_with, lot, lamp)

    def test_a_hard_lot_with_one_turned(self):
        for lot in lots_to_mend(58):
            if len(mendings_of(lot)) == 6:
                for lamp in LAMPS[::5]:
                    others = tuple(own for own in mending.mending_with(lot, lamp) if own != lamp)
                    self.assert_same(mending.mendings(sum_lots(lot, (lamp,))), [others])

    def test_mending_fours(self):
        for lot in lots_to_mend(59):
            own = mendings_of(lot)
            if len(own) == 1:
                self.assert_raises(NoWay, {}, mending.mending_fours, lot)
            else:
                self.assert_same(mending.mending_fours(lot), tuple(sorted(own)))
                self.assertEqual(sorted(lamp for one in own for lamp in one), list(LAMPS))


class Rests(Case):

    def test_rest_of(self):
        for lot in lots_to_mend(60):
            self.assert_same(mending.rest_of(lot), min(mendings_of(lot)))

    def test_same_rest_edges(self):
        self.assert_same(mending.same_rest((), ()), True)
        self.assert_same(mending.same_rest((), LAMPS), True)
        self.assert_same(mending.same_rest(LAMPS, (0,)), False)

    def test_rests(self):
        for many in range(4):
            self.assert_same(mending.rests(many), list(SMALL_LOTS[many]))
        own = [mendings_of(lot) for lot in SMALL_LOTS[4] if lot[0] == 0]
        self.assertEqual(sorted(lot for lots in own for lot in lots), list(SMALL_LOTS[4]))
        self.assert_same(mending.rests(4), sorted(min(lots) for lots in own))
        self.assertEqual(sum(len(mending.rests(many)) for many in range(5)), 4096)

    def test_no_number(self):
        for many in (-1, 5, -4, 24, 10 ** 30, -10 ** 30):
            self.assert_raises(NoNumber, {"number": many}, mending.rests, many)


class Filled(Case):

    def test_filled_or_barred_never_both(self):
        kinds = []
        for lot, gaps in lots_with_gaps(61):
            fit = [right for right in RIGHT if fills(lot, gaps, right)] if len(kinds) % 4 == 0 else None
            try:
                told = mending.filled(lot, gaps)
                self.assertTrue(told in RIGHT_SET and fills(lot, gaps, told))
                self.assertIs(type(told), tuple)
                self.assert_same(mending.filled(list(lot), list(gaps)), told)
                self.assertIs(mending.is_filled(lot, gaps, told), True)
                self.assert_raises(NoWay, {}, mending.fill_bar, lot, gaps)
                kinds.append(True)
            except NoWay:
                self.assert_raises(NoWay, {}, mending.filled, lot, gaps)
                bar = mending.fill_bar(lot, gaps)
                self.assertTrue(bar in RIGHT_SET and bars(lot, gaps, bar))
                self.assertIs(type(bar), tuple)
                self.assert_same(mending.fill_bar(list(lot), list(gaps)), bar)
                self.assertIs(mending.is_fill_bar(lot, gaps, bar), True)
                kinds.append(False)
            if fit is not None:
                self.assertEqual(bool(fit), kinds[-1])
                self.assertTrue(len(gaps) > 7 or len(fit) <= 1)
        self.assertTrue(kinds.count(True) > 200 and kinds.count(False) > 100)

    def test_without_gaps_just_right_ones(self):
        for lot in list(RIGHT[::60]) + some_lots(62, 60):
            if lot in RIGHT_SET:
                self.assert_same(mending.filled(lot, ()), lot)
                self.assert_raises(NoWay, {}, mending.fill_bar, lot, ())
            else:
                self.assert_raises(NoWay, {}, mending.filled, lot, ())
                self.assertTrue(bars(lot, (), mending.fill_bar(lot, ())))

    def test_what_lot_has_of_gaps_is_not_asked(self):
        for lot, gaps in lots_with_gaps(63)[::5]:
            bare = tuple(lamp for lamp in lot if lamp not in gaps)
            for right in RIGHT[::101]:
                self.assertEqual(mending.is_filled(lot, gaps, right), mending.is_filled(bare, gaps, right))
                self.assertEqual(mending.is_fill_bar(lot, gaps, right), mending.is_fill_bar(bare, gaps, right))

    def test_is_filled_and_is_bar_of_right_lots(self):
        for lot, gaps in lots_with_gaps(64)[::9]:
            for right in RIGHT[::23] + ((), LAMPS):
                self.assertIs(mending.is_filled(lot, gaps, right), fills(lot, gaps, right))
                self.assertIs(mending.is_fill_bar(lot, gaps, right), bars(lot, gaps, right))

    def test_lots_that_are_not_right_are_neither(self):
        for lot in some_lots(65, 60):
            if lot not in RIGHT_SET:
                self.assertIs(mending.is_filled(lot, (), lot), False)
                self.assertIs(mending.is_filled(lot, LAMPS, lot), False)
                self.assertIs(mending.is_fill_bar(LAMPS, (), lot), False)

    def test_things(self):
        eight = EIGHTS[0]
        for lot, gaps in ((eight[:5], eight[5:]), ((), LAMPS), ((0, 5), (1, 2)), (eight[:3], ()), (EIGHTS[1], ())):
            def is_filled_thing(thing):
                return is_plain_right(thing) and fills(lot, gaps, thing)

            def is_bar_thing(thing):
                return is_plain_right(thing) and bars(lot, gaps, thing)
            things = spoiled(eight) + spoiled(EIGHTS[500]) + [eight, EIGHTS[500], EIGHTS[1]]
            self.assert_things(mending.is_filled, (lot, gaps), is_filled_thing, things)
            self.assert_things(mending.is_fill_bar, (lot, gaps), is_bar_thing, things)


if __name__ == "__main__":
    unittest.main()
