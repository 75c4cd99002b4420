"""Dozens [14]: each function, its edges, its errors, and the guarantees."""

import functools
import itertools
import math
import random
import unittest

from eightlots import dozens
from eightlots.errors import NoPaper, NoWay, Unfit
from tests.helper import (EIGHTS, LAMPS, RIGHT, RIGHT_SET, STRANGE, Case, deep_lists, is_plain_lot, is_plain_number,
                          keeping_with, keeps_by_rule, led_by, some_keeping, some_lots, spoiled)

DOZENS = tuple(lot for lot in RIGHT if len(lot) == 12)
DOZEN = (0, 1, 3, 4, 5, 7, 8, 9, 10, 15, 17, 21)
OTHER = (6, 7, 9, 10, 12, 14, 18, 19, 20, 21, 22, 23)
SAMPLE = [DOZEN, OTHER] + random.Random(170).sample(DOZENS, 12)
NO_DOZENS = (None, 7, True, "dozen", (), (0, 1, 2), DOZEN[1:], DOZEN + (22,), (0, 1, 3, 4, 5, 7, 8, 9, 10, 15, 17, 22),
             LAMPS[:12], LAMPS, DOZEN[::-1], (False,) + DOZEN[1:], (0, True) + DOZEN[2:], (DOZEN,), EIGHTS[4],
             DOZEN[:11] + (24,), [DOZEN[0]] * 12, ("0",) + DOZEN[1:])
NO_FIVES = (None, 5, "five", (), (0, 1, 3, 4), (0, 1, 3, 4, 5, 7), (0, 1, 3, 4, 4), (0, 1, 3, 4, 2), (0, 1, 3, 4, 24),
            (0, True, 3, 4, 5), ((0,), 1, 3, 4, 5), DOZEN)


@functools.lru_cache(maxsize=None)
def sixes_of(dozen):
    """The SIXES of a DOZEN, ascending, with the pair of each."""
    found = {}
    for eight in EIGHTS:
        six = tuple(lamp for lamp in eight if lamp in dozen)
        if len(six) == 6:
            found[six] = tuple(lamp for lamp in eight if lamp not in dozen)
    return dict(sorted(found.items()))


def is_map_of(dozen, other, thing):
    """Whether thing is a MAP of all LAMPS of dozen to those of other."""
    if type(thing) is not tuple or not all(type(own) is tuple and len(own) == 2 for own in thing):
        return False
    if not all(is_plain_number(own) for pair in thing for own in pair):
        return False
    return tuple(pair[0] for pair in thing) == dozen and sorted(pair[1] for pair in thing) == list(other)


def is_even(dozen, other, thing):
    """Whether thing is an even MAP."""
    if not is_map_of(dozen, other, thing):
        return False
    goals = dict(thing)
    return all(tuple(sorted(goals[lamp] for lamp in six)) in sixes_of(other) for six in sixes_of(dozen))


def some_ties(seed, many):
    """Quadruples (dozen, other, MAP, SHUFFLE or None): even MAPS with their SHUFFLE, and others."""
    source = random.Random(seed)
    found = []
    for shuffle in some_keeping(seed, many):
        dozen = source.choice(SAMPLE)
        other = led_by(shuffle, dozen)
        ties = tuple((lamp, shuffle[lamp]) for lamp in dozen)
        found.append((dozen, other, ties, shuffle))
        goals = [pair[1] for pair in ties]
        one, far = source.sample(range(12), 2)
        goals[one], goals[far] = goals[far], goals[one]
        found.append((dozen, other, tuple(zip(dozen, goals)), None))
        source.shuffle(goals)
        found.append((dozen, other, tuple(zip(dozen, goals)), None))
    return found


class Dozens(Case):

    def test_is_dozen(self):
        def expected(thing):
            return is_plain_lot(thing) and len(thing) == 12 and thing in RIGHT_SET
        for lot in RIGHT[::2]:
            self.assertIs(dozens.is_dozen(lot), len(lot) == 12)
        self.assert_things(dozens.is_dozen, (), expected, spoiled(DOZEN) + list(NO_DOZENS) + some_lots(171, 90))
        self.assertEqual(len(DOZENS), 2576)

    def test_other_dozen(self):
        for dozen in DOZENS[::20]:
            rest = tuple(lamp for lamp in LAMPS if lamp not in dozen)
            self.assertIn(rest, DOZENS)
            self.assert_same(dozens.other_dozen(dozen), rest)
            self.assert_same(dozens.other_dozen(list(dozen)), rest)

    def test_eights_and_a_dozen(self):
        for dozen in SAMPLE[:4]:
            self.assertEqual({len(set(eight) & set(dozen)) for eight in EIGHTS}, {2, 4, 6})

    def test_wrong_dozens(self):
        six = tuple(sixes_of(DOZEN))[3]
        ties = tuple(zip(DOZEN, DOZEN))
        for bad in NO_DOZENS:
            for function, more in ((dozens.other_dozen, ()), (dozens.sixes, ()), (dozens.sixes_with, ((),)),
                                   (dozens.six_of_five, (DOZEN[:5],)), (dozens.eight_of_six, (six,)),
                                   (dozens.pair_of_six, (six,)), (dozens.sixes_of_pair, ((2, 6),)),
                                   (dozens.led_dozen, (DOZEN, DOZEN[:5], DOZEN[:5])), (dozens.lost_six, (DOZEN, ties)),
                                   (dozens.dozen_shuffle, (DOZEN, ties))):
                self.assert_raises(Unfit, {}, function, bad, *more)
            for thing in (None, six, ties, ()):
                self.assert_raises(Unfit, {}, dozens.is_six, bad, thing)
                self.assert_raises(Unfit, {}, dozens.is_even_map, bad, DOZEN, thing)
                self.assert_raises(Unfit, {}, dozens.is_even_map, DOZEN, bad, thing)
                self.assert_raises(Unfit, {}, dozens.is_lost_six, bad, DOZEN, ties, thing)
                self.assert_raises(Unfit, {}, dozens.is_lost_six, DOZEN, bad, ties, thing)
            self.assert_raises(Unfit, {}, dozens.led_dozen, DOZEN, bad, DOZEN[:5], DOZEN[:5])
            self.assert_raises(Unfit, {}, dozens.lost_six, DOZEN, bad, ties)
            self.assert_raises(Unfit, {}, dozens.dozen_shuffle, DOZEN, bad, ties)


class Sixes(Case):

    def test_sixes(self):
        for dozen in SAMPLE:
            self.assert_same(dozens.sixes(dozen), list(sixes_of(dozen)))
            self.assert_same(dozens.sixes(list(dozen)), list(sixes_of(dozen)))
            self.assertEqual(len(sixes_of(dozen)), 132)

    def test_is_six(self):
        for dozen in SAMPLE[:3]:
            def expected(thing):
                return is_plain_lot(thing) and thing in sixes_of(dozen)
            things = spoiled(list(sixes_of(dozen))[7]) + list(itertools.combinations(dozen, 6))[::5]
            things += list(sixes_of(dozen))[::4] + list(sixes_of(OTHER))[:20] + [own[:5] for own in sixes_of(dozen)][:4]
            self.assert_things(dozens.is_six, (dozen,), expected, things)
            self.assert_things(dozens.is_six, (list(dozen),), expected, things[::9])
        self.assertIn((0, 1, 3, 4, 5, 7), sixes_of(DOZEN))
        self.assertIs(dozens.is_six(DOZEN, (False, True, 3, 4, 5, 7)), False)

    def test_five_tell_a_six(self):
        source = random.Random(172)
        for dozen in SAMPLE[:6]:
            for five in itertools.combinations(dozen, 5):
                if source.random() < 0.1:
                    found = [six for six in sixes_of(dozen) if set(five) <= set(six)]
                    self.assertEqual(len(found), 1)
                    order = source.sample(five, 5)
                    self.assert_same(dozens.six_of_five(dozen, tuple(order)), found[0])
                    self.assert_same(dozens.six_of_five(list(dozen), order), found[0])
        for bad in NO_FIVES:
            self.assert_raises(Unfit, {}, dozens.six_of_five, DOZEN, bad)

    def test_sixes_with(self):
        source = random.Random(173)
        for dozen in SAMPLE[:6]:
            for size in range(13):
                for lot in [tuple(sorted(source.sample(dozen, size))) for _ in range(4)]:
                    expected = [six for six in sixes_of(dozen) if set(lot) <= set(six)]
                    self.assert_same(dozens.sixes_with(dozen, lot), expected)
                    self.assert_same(dozens.sixes_with(list(dozen), list(lot)), expected)
        for bad in (None, 4, (2,), (0, 2), (1, 0), (0, 0), (24,), (True,), LAMPS, ("0",), ((0,),)):
            self.assert_raises(Unfit, {}, dozens.sixes_with, DOZEN, bad)

    def test_eights_and_pairs(self):
        for dozen in SAMPLE[:4]:
            for six, pair in sixes_of(dozen).items():
                self.assert_same(dozens.eight_of_six(dozen, six), tuple(sorted(six + pair)))
                self.assert_same(dozens.pair_of_six(list(dozen), list(six)), pair)
                rest = tuple(lamp for lamp in dozen if lamp not in six)
                self.assertEqual(sixes_of(dozen)[rest], pair)
            for pair in itertools.combinations([lamp for lamp in LAMPS if lamp not in dozen], 2):
                expected = [six for six in sixes_of(dozen) if sixes_of(dozen)[six] == pair]
                self.assertEqual(len(expected), 2)
                self.assert_same(dozens.sixes_of_pair(dozen, pair), expected)
                self.assert_same(dozens.sixes_of_pair(list(dozen), list(pair)), expected)

    def test_no_sixes_no_pairs(self):
        six = list(sixes_of(DOZEN))[5]
        bad_sixes = (None, 6, (), six[:5], six[::-1], DOZEN, (0, 1, 3, 4, 5, 8), list(sixes_of(OTHER))[0], six + (21,),
                     (True,) + six[1:], [six], EIGHTS[0])
        for bad in bad_sixes:
            self.assertFalse(isinstance(bad, tuple) and bad in sixes_of(DOZEN) and bad[0] is not True)
            self.assert_raises(Unfit, {}, dozens.eight_of_six, DOZEN, bad)
            self.assert_raises(Unfit, {}, dozens.pair_of_six, six=bad, dozen=DOZEN)
        for bad in (None, 2, (), (2,), (2, 6, 11), (6, 2), (2, 2), (0, 2), (0, 1), (2, 24), (-1, 2), ((2, 6),), ("2", 6)):
            self.assert_raises(Unfit, {}, dozens.sixes_of_pair, DOZEN, bad)


class Maps(Case):

    def test_led_dozen(self):
        source = random.Random(174)
        for k, dozen in enumerate(SAMPLE):
            for other in (SAMPLE[k - 1], dozen):
                five, goals = tuple(source.sample(dozen, 5)), tuple(source.sample(other, 5))
                ties = dozens.led_dozen(dozen, other, five, goals)
                self.assertTrue(is_even(dozen, other, ties))
                self.assertEqual(tuple(dict(ties)[lamp] for lamp in five), goals)
                self.assert_same(dozens.led_dozen(list(dozen), list(other), list(five), list(goals)), ties)
                # All keeping SHUFFLES that lead five to goals: just one leads dozen to other.
                found = [own for own in keeping_with(tuple(sorted(zip(five, goals)))) if led_by(own, dozen) == other]
                self.assertEqual(len(found), 1)
                self.assert_same(dozens.dozen_shuffle(dozen, other, ties), found[0])

    def test_wrong_fives(self):
        good = OTHER[:5]
        for bad in NO_FIVES:
            self.assert_raises(Unfit, {}, dozens.led_dozen, DOZEN, OTHER, bad, good)
        for bad in (None, 5, (), (6, 7, 9, 10), (6, 7, 9, 10, 12, 14), (6, 7, 9, 10, 10), (6, 7, 9, 10, 11), DOZEN[:5]):
            self.assert_raises(Unfit, {}, dozens.led_dozen, DOZEN, OTHER, DOZEN[:5], bad)
            self.assert_raises(Unfit, {}, dozens.led_dozen, DOZEN, OTHER, goals=bad, five=bad)

    def test_even_maps_and_others(self):
        for dozen, other, ties, shuffle in some_ties(175, 30):
            even = is_even(dozen, other, ties)
            self.assertEqual(even, shuffle is not None)
            self.assertIs(dozens.is_even_map(dozen, other, ties), even)
            self.assertIs(dozens.is_even_map(list(dozen), list(other), thing=ties), even)
            self.assertIs(dozens.is_even_map(dozen, other, deep_lists(ties)), False)
            if even:
                self.assertTrue(keeps_by_rule(shuffle))
                self.assert_same(dozens.dozen_shuffle(dozen, other, ties), shuffle)
                self.assert_same(dozens.dozen_shuffle(*deep_lists((dozen, other, ties))), shuffle)
                self.assert_raises(NoPaper, {}, dozens.lost_six, dozen, other, ties)
            else:
                self.assert_raises(NoWay, {}, dozens.dozen_shuffle, dozen, other, ties)
                six = dozens.lost_six(dozen, other, ties)
                self.assert_same(dozens.lost_six(*deep_lists((dozen, other, ties))), six)
                self.assertIn(six, sixes_of(dozen))
                self.assertNotIn(tuple(sorted(dict(ties)[lamp] for lamp in six)), sixes_of(other))
                self.assertIs(dozens.is_lost_six(dozen, other, ties, six), True)

    def test_is_lost_six(self):
        for dozen, other, ties, _ in some_ties(176, 3):
            def expected(thing):
                if not is_plain_lot(thing) or thing not in sixes_of(dozen):
                    return False
                return tuple(sorted(dict(ties)[lamp] for lamp in thing)) not in sixes_of(other)
            for six in sixes_of(dozen):
                self.assertIs(dozens.is_lost_six(dozen, other, ties, six), expected(six))
            things = spoiled(list(sixes_of(dozen))[9])[::3] + list(itertools.combinations(dozen, 6))[::31]
            self.assert_things(dozens.is_lost_six, (dozen, other, ties), expected, things)
            self.assert_things(dozens.is_lost_six, deep_lists((dozen, other, ties)), expected, things[::9])

    def test_is_even_map_of_things(self):
        dozen, other, ties, _ = some_ties(177, 5)[12]
        things = spoiled(ties)
        things = things[:60] + things[60::25] + [ties, ties[::-1], ties[1:], ties + ties[:1], tuple(zip(other, dozen))]
        things += [tuple(zip(LAMPS[:12], other)), tuple((own, own) for own in dozen), tuple(enumerate(LAMPS))]
        self.assert_things(dozens.is_even_map, (dozen, other), lambda thing: is_even(dozen, other, thing), things)
        self.assert_things(dozens.is_even_map, (dozen, dozen), lambda thing: is_even(dozen, dozen, thing),
                           things[::20] + [tuple((own, own) for own in dozen)])

    def test_no_maps(self):
        ties = tuple(zip(DOZEN, OTHER))
        bad_maps = [None, 4, "ties", (), ties[1:], ties[::-1], tuple(zip(OTHER, DOZEN)), tuple(zip(DOZEN, DOZEN)), ((0, 6),),
                    ties[:11] + ((21, 22),), ties[:11] + ((21, 24),), ties[:11] + ((21,),), ties + ((23, 0),), (ties,),
                    ties[:11] + ((21, "23"),), ties[:1] + ((True, 7),) + ties[2:], tuple(enumerate(LAMPS))]
        for bad in bad_maps:
            self.assert_raises(Unfit, {}, dozens.lost_six, DOZEN, OTHER, bad)
            self.assert_raises(Unfit, {}, dozens.dozen_shuffle, dozen=DOZEN, ties=bad, other=OTHER)
            for thing in (None, list(sixes_of(DOZEN))[0], STRANGE):
                self.assert_raises(Unfit, {}, dozens.is_lost_six, DOZEN, OTHER, bad, thing)

    def test_all_even_maps_of_one_five(self):
        # Each five goals, in each order: unlike even MAPS; so there are as many as ways to choose the goals.
        source = random.Random(178)
        found = set()
        for _ in range(60):
            goals = tuple(source.sample(OTHER, 5))
            found.add((goals, dozens.led_dozen(DOZEN, OTHER, DOZEN[:5], goals)))
        self.assertEqual(len({goals for goals, _ in found}), len({ties for _, ties in found}))
        self.assertEqual(math.perm(12, 5), 95040)


if __name__ == "__main__":
    unittest.main()
