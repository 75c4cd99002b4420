"""Kinds [13]: each function, its edges, its errors, and the guarantees."""

import math
import random
import unittest

from eightlots import kinds
from eightlots.errors import NoLamp, NoPaper, NoWay, Unfit
from eightlots.fives import how_many_shuffles
from tests.helper import (EIGHTS, LAMPS, RIGHT, STRANGE, SWAP, Case, deep_lists, keeping_with, keeps_by_rule,
                          kind_by_rule, led_by, lots_of_all_kinds, some_keeping, some_lots, spoiled, sum_lots)

NO_LAMPS = (-1, 24, -24, 10 ** 30, -10 ** 30)
NO_LOTS = (None, 3, True, "lot", (1, 0), (0, 0), (0, 24), (-1, 0), (0, None), (False, 1), (0, True), ((0, 1),), ("0",),
           [3, 2], [[0]], LAMPS + (24,), (0, (1,)))
NO_MAPS = (None, 0, "ties", (0,), ((0, 24),), ((1, 0), (0, 1)), ((0, 1), (0, 2)), ((0, 1), (1, 1)), ((False, 0),))
ONE, OTHER = (2, 3, 8, 11, 13, 17, 20), (0, 1, 5, 10, 12, 19, 22)
FLAT, BENT = (0, 1, 2, 3, 4, 5), (0, 1, 2, 3, 4, 8)


def is_shuffle(thing):
    """Whether thing is a SHUFFLE."""
    return type(thing) is tuple and all(type(own) is int for own in thing) and sorted(thing) == list(LAMPS)


def leads(one, other, thing):
    """Whether thing is a keeping SHUFFLE that leads one to other."""
    return is_shuffle(thing) and keeps_by_rule(thing) and led_by(thing, one) == other


def is_paper(one, other, thing):
    """Whether thing is the UNLIKE PAPER of both."""
    paper = (kind_by_rule(one), kind_by_rule(other))
    return paper[0] != paper[1] and repr(thing) == repr(paper)


def turned(lot, lamp):
    """lot with just this LAMP turned."""
    return sum_lots(lot, (lamp,))


def like_pairs(seed):
    """Pairs of like LOTS, of each KIND."""
    source = random.Random(seed)
    had = some_keeping(seed, 40)
    return [(lot, led_by(source.choice(had[5:]), lot)) for lot in lots_of_all_kinds()]


def unlike_pairs(seed, many):
    """Pairs of unlike LOTS, most of them of one size."""
    source = random.Random(seed)
    lots = lots_of_all_kinds()
    pairs = [(FLAT, BENT), ((), (0,)), (LAMPS, ()), (LAMPS[1:], LAMPS[:22])]
    for one in lots:
        pairs += [(one, other) for other in lots if len(other) == len(one) and other != one]
    had = some_keeping(seed, 30)
    return [(led_by(source.choice(had), one), other) for one, other in source.sample(pairs, many)]


def shuffle_things(one, other, seed):
    """Things that are, or nearly are, SHUFFLES that lead one to other."""
    good = kinds.led_to(one, other)
    things = [good, list(good), good[1:], good + (0,), (good,), ("led", good), LAMPS, SWAP, LAMPS[::-1]]
    things += [tuple(map(str, good)), good[:12] + good[:12], (good[0],) * 24]
    source = random.Random(seed)
    for _ in range(6):
        bent = list(good)
        k, far = source.sample(LAMPS, 2)
        bent[k], bent[far] = bent[far], bent[k]
        things.append(tuple(bent))
    place = good.index(1)
    things.append(good[:place] + (True,) + good[place + 1:])
    return things + some_keeping(seed, 12) + list(STRANGE)


class Kinds(Case):

    def test_there_are_49(self):
        self.assertEqual(len(lots_of_all_kinds()), 49)
        self.assertEqual(len({kind_by_rule(lot) for lot in lots_of_all_kinds()}), 49)

    def test_kind_of(self):
        known = {kind_by_rule(lot) for lot in lots_of_all_kinds()}
        for lot in some_lots(150, 120) + list(lots_of_all_kinds()):
            self.assertIn(kind_by_rule(lot), known)
            self.assert_same(kinds.kind_of(lot), kind_by_rule(lot))
            self.assert_same(kinds.kind_of(list(lot)), kind_by_rule(lot))

    def test_are_like(self):
        for one, other in like_pairs(151):
            self.assertIs(kinds.are_like(one, other), True)
            self.assertIs(kinds.are_like(list(other), list(one)), True)
        for one, other in unlike_pairs(151, 40):
            self.assertIs(kinds.are_like(one, other), False)

    def test_no_lots(self):
        for bad in NO_LOTS:
            for function in (kinds.kind_of, kinds.how_many_keep, kinds.how_many_like, kinds.alike_lamps,
                             kinds.with_one_turned):
                self.assert_raises(Unfit, {}, function, bad)
                self.assert_raises(Unfit, {}, function, lot=bad)
            for function in (kinds.are_like, kinds.led_to, kinds.unlike_paper, kinds.case_of):
                self.assert_raises(Unfit, {}, function, bad, ONE)
                self.assert_raises(Unfit, {}, function, ONE, bad)
            for function in (kinds.is_led_to, kinds.is_unlike_paper, kinds.is_case_of):
                for thing in (None, LAMPS, ()):
                    self.assert_raises(Unfit, {}, function, bad, ONE, thing)
                    self.assert_raises(Unfit, {}, function, ONE, bad, thing)
            self.assert_raises(Unfit, {}, kinds.led_with, bad, ONE, ())
            self.assert_raises(Unfit, {}, kinds.led_with, ONE, bad, ())
            self.assert_raises(Unfit, {}, kinds.keeps_and_leads, bad, 99, 0)
            self.assert_raises(Unfit, {}, kinds.is_keeps_and_leads, bad, 0, 99, None)


class Led(Case):

    def test_each_two_are_led_or_have_a_paper(self):
        for one, other in like_pairs(152):
            shuffle = kinds.led_to(one, other)
            self.assertTrue(leads(one, other, shuffle))
            self.assert_same(kinds.led_to(list(one), list(other)), shuffle)
            self.assert_raises(NoPaper, {}, kinds.unlike_paper, one, other)
            case = kinds.case_of(one, other)
            self.assertEqual(case[0], "led")
            self.assertTrue(leads(one, other, case[1]))
            self.assertIs(kinds.is_case_of(one, other, case), True)
        for one, other in unlike_pairs(152, 40):
            paper = (kind_by_rule(one), kind_by_rule(other))
            self.assert_raises(NoWay, {}, kinds.led_to, one, other)
            self.assert_same(kinds.unlike_paper(one, other), paper)
            self.assert_same(kinds.unlike_paper(list(one), list(other)), paper)
            self.assert_same(kinds.case_of(one, other), ("unlike", paper))
            self.assertIs(kinds.is_case_of(one, other, ("unlike", paper)), True)

    def test_any_lots(self):
        lots = some_lots(153, 60)
        for one, other in zip(lots, reversed(lots)):
            case = kinds.case_of(one, other)
            self.assertEqual(case[0], "led" if kind_by_rule(one) == kind_by_rule(other) else "unlike")
            self.assertIs(kinds.is_case_of(one, other, case), True)

    def test_is_led_to(self):
        for k, (one, other) in enumerate(like_pairs(154)[::6] + [((), ()), (ONE, OTHER), (ONE, ONE)]):
            for thing in shuffle_things(one, other, k):
                self.assertIs(kinds.is_led_to(one, other, thing), leads(one, other, thing))
                self.assertIs(kinds.is_led_to(list(one), list(other), thing=thing), leads(one, other, thing))
        for thing in [LAMPS] + some_keeping(154, 10) + list(STRANGE):
            self.assertIs(kinds.is_led_to(FLAT, BENT, thing), False)

    def test_is_unlike_paper(self):
        for one, other in unlike_pairs(155, 2) + [(FLAT, BENT)]:
            paper = (kind_by_rule(one), kind_by_rule(other))
            things = spoiled(paper)
            self.assert_things(kinds.is_unlike_paper, (one, other), lambda thing: repr(thing) == repr(paper),
                               things[:40] + things[40::9] + [paper, paper[::-1]])
        paper = (kind_by_rule(FLAT), kind_by_rule(BENT))
        self.assertEqual(paper[0][1][6], 1)
        truth = ((6, paper[0][1][:6] + (True,) + paper[0][1][7:]), paper[1])
        self.assertEqual(truth, paper)
        self.assertIs(kinds.is_unlike_paper(FLAT, BENT, truth), False)
        self.assertIs(kinds.is_unlike_paper(FLAT, FLAT, (paper[0], paper[0])), False)
        self.assertIs(kinds.is_unlike_paper(FLAT, FLAT, paper), False)

    def test_is_case_of(self):
        paper = (kind_by_rule(FLAT), kind_by_rule(BENT))
        for one, other in ((FLAT, BENT), (ONE, OTHER)):
            def expected(thing):
                if type(thing) is not tuple or len(thing) != 2:
                    return False
                if thing[0] == "led":
                    return leads(one, other, thing[1])
                return thing[0] == "unlike" and is_paper(one, other, thing[1])
            good = kinds.case_of(one, other)
            things = [good, list(good), good[::-1], good[:1], good + good, good[1], good[0], ("LED", good[1])]
            things += [(word, own) for word in ("led", "unlike", "", None, 0, ("led",), ["led"])
                       for own in [good[1], paper, list(good[1]), LAMPS] + list(STRANGE)]
            things += [("led", own) for own in shuffle_things(ONE, OTHER, 3)]
            things += [("unlike", own) for own in spoiled(paper)[:60]]
            self.assert_things(kinds.is_case_of, (one, other), expected, things)


class LedWith(Case):

    def test_led_with(self):
        source = random.Random(156)
        had = some_keeping(156, 60)
        seen = set()
        for lot in lots_of_all_kinds() * 2:
            shuffle = source.choice(had)
            other = led_by(shuffle, lot)
            size = source.choice((1, 2, 3, 4, 5, 6, 7, 24))
            lamps = sorted(source.sample(LAMPS, size))
            goals = [shuffle[lamp] for lamp in lamps]
            self.assertTrue(self.is_found(lot, other, tuple(zip(lamps, goals))))
            # Goals that change places: by whether they are in other, or in whatever way.
            kind = source.choice((True, False))
            one, far = source.choice([(k, n) for k in range(size) for n in range(size)
                                      if not kind or (goals[k] in other) == (goals[n] in other)])
            goals[one], goals[far] = goals[far], goals[one]
            seen.add(self.is_found(lot, other, tuple(zip(lamps, goals))))
        self.assertEqual(seen, {True, False})

    def is_found(self, one, other, ties):
        """Whether led_with finds a SHUFFLE; what it finds, or that there is none, is looked at."""
        try:
            shuffle = kinds.led_with(one, other, ties)
        except NoWay:
            if len(ties) >= 5:
                self.assertFalse([own for own in keeping_with(ties) if led_by(own, one) == other])
            self.assert_raises(NoWay, {}, kinds.led_with, list(one), list(other), deep_lists(ties))
            return False
        self.assertTrue(leads(one, other, shuffle))
        self.assertTrue(all(shuffle[lamp] == goal for lamp, goal in ties))
        self.assert_same(kinds.led_with(list(one), list(other), deep_lists(ties)), shuffle)
        return True

    def test_few_ties_by_trying(self):
        # With four pairs given all ways are tried: there are 960 with a fifth pair.
        source = random.Random(157)
        for one, other in like_pairs(157)[10:36:6]:
            inside = [lamp for lamp in LAMPS if lamp in one]
            lamps = sorted(source.sample(inside, min(4, len(inside))))
            goals = source.sample(other, len(lamps))
            ties = tuple(zip(lamps, goals))
            if len(ties) == 4:
                free = [lamp for lamp in LAMPS if lamp not in lamps][0]
                is_there = any(led_by(own, one) == other for goal in LAMPS if goal not in goals
                               for own in keeping_with(tuple(sorted(ties + ((free, goal),)))))
                self.assertEqual(self.is_found(one, other, ties), is_there)

    def test_ties_against_the_lots(self):
        for one, other in ((ONE, OTHER), (FLAT, FLAT), ((5,), (7,))):
            for lamp in one:
                for goal in [own for own in LAMPS if own not in other][::3]:
                    self.assert_raises(NoWay, {}, kinds.led_with, one, other, ((lamp, goal),))
        self.assert_same(kinds.led_with(LAMPS, LAMPS, tuple(enumerate(LAMPS))), LAMPS)
        self.assert_raises(NoWay, {}, kinds.led_with, (), (), tuple(enumerate(SWAP)))
        self.assert_raises(NoWay, {}, kinds.led_with, FLAT, BENT, ())

    def test_no_maps(self):
        for bad in NO_MAPS:
            self.assert_raises(Unfit, {}, kinds.led_with, ONE, OTHER, bad)
            self.assert_raises(Unfit, {}, kinds.led_with, FLAT, BENT, ties=bad)


class Keeps(Case):

    def test_how_many_of_each_kind(self):
        many = {size: 0 for size in range(25)}
        for lot in lots_of_all_kinds():
            like, keep = kinds.how_many_like(lot), kinds.how_many_keep(lot)
            self.assertEqual(like * keep, how_many_shuffles())
            many[len(lot)] += like
        self.assertEqual(many, {size: math.comb(24, size) for size in range(25)})

    def test_known_numbers(self):
        dozens = [lot for lot in RIGHT if len(lot) == 12]
        known = [((), 1), (LAMPS, 1), ((7,), 24), (LAMPS[1:], 24), ((0, 9), 276), (EIGHTS[7], 759), (dozens[5], len(dozens)),
                 (sum_lots(EIGHTS[7], LAMPS), 759), (FLAT, 759 * 28), (EIGHTS[9][1:], 759 * 8)]
        for lot, many in known:
            self.assert_same(kinds.how_many_like(lot), many)
            self.assert_same(kinds.how_many_like(list(lot)), many)
            self.assert_same(kinds.how_many_keep(lot), how_many_shuffles() // many)
        self.assert_same(kinds.how_many_like(BENT), math.comb(24, 6) - 759 * 28)

    def test_how_many_keep_by_trying(self):
        # A SHUFFLE that keeps five LAMPS in their order keeps this LOT: among the 48 all that do are counted.
        for lot in lots_of_all_kinds()[20:36:4]:
            lamps = lot[:5]
            still = tuple((lamp, lamp) for lamp in lamps)
            among = len([own for own in keeping_with(still) if led_by(own, lot) == lot])
            self.assertEqual(kinds.how_many_keep(lot) % among, 0)

    def test_alike_lamps_of_each_kind(self):
        # For each KIND: the sets are just those that keeping SHUFFLES tell, LAMP by LAMP.
        for lot in lots_of_all_kinds():
            sets = kinds.alike_lamps(lot)
            self.assertEqual(sorted(lamp for own in sets for lamp in own), list(LAMPS))
            self.assertEqual(list(sets), sorted(tuple(sorted(own)) for own in sets))
            self.assert_same(kinds.alike_lamps(list(lot)), sets)
            for own in sets:
                for lamp in own:
                    shuffle = kinds.keeps_and_leads(lot, own[0], lamp)
                    self.assertTrue(leads(lot, lot, shuffle) and shuffle[own[0]] == lamp)
                for far in sets:
                    if far != own:
                        self.assert_raises(NoWay, {}, kinds.keeps_and_leads, lot, own[-1], far[0])

    def test_unlike_lamps_have_no_way(self):
        # Turned, they make LOTS of unlike KINDS: so no SHUFFLE that keeps the LOT leads them to one another.
        for one, other in like_pairs(158)[::5]:
            for own in kinds.alike_lamps(other):
                self.assertEqual(len({kind_by_rule(turned(other, lamp)) for lamp in own}), 1)
            self.assertEqual(len(kinds.alike_lamps(other)), len({kind_by_rule(turned(one, lamp)) for lamp in LAMPS}))

    def test_with_one_turned(self):
        for lot in list(lots_of_all_kinds())[::4] + some_lots(159, 30):
            expected = {}
            for lamp in LAMPS:
                expected.setdefault(kind_by_rule(turned(lot, lamp)), []).append(lamp)
            pairs = tuple(sorted((kind, tuple(lamps)) for kind, lamps in expected.items()))
            self.assert_same(kinds.with_one_turned(lot), pairs)
            self.assert_same(kinds.with_one_turned(list(lot)), pairs)

    def test_is_keeps_and_leads(self):
        for lot, lamp, goal in ((ONE, 2, 20), (ONE, 17, 17), (FLAT, 6, 7), ((), 0, 23), (LAMPS, 5, 5)):
            good = kinds.keeps_and_leads(lot, lamp, goal)
            self.assert_same(kinds.keeps_and_leads(list(lot), lamp, goal), good)

            def expected(thing):
                return leads(lot, lot, thing) and thing[lamp] == goal
            things = [good, list(good), good[1:], good + good, (good,), SWAP, LAMPS] + some_keeping(160, 20)
            things += [tuple(own) for own in shuffle_things(lot, lot, 5) if isinstance(own, tuple)]
            self.assert_things(kinds.is_keeps_and_leads, (lot, lamp, goal), expected, things)
            self.assertIs(kinds.is_keeps_and_leads(lot, lamp, goal, good), True)

    def test_no_lamps(self):
        for bad in NO_LAMPS:
            for lot in ((), ONE):
                self.assert_raises(NoLamp, {"lamp": bad}, kinds.keeps_and_leads, lot, bad, 3)
                self.assert_raises(NoLamp, {"lamp": bad}, kinds.keeps_and_leads, lot, 3, bad)
                self.assert_raises(NoLamp, {"lamp": bad}, kinds.keeps_and_leads, lot, goal=99, lamp=bad)
                for thing in (None, LAMPS):
                    self.assert_raises(NoLamp, {"lamp": bad}, kinds.is_keeps_and_leads, lot, bad, 99, thing)
                    self.assert_raises(NoLamp, {"lamp": bad}, kinds.is_keeps_and_leads, lot, 0, bad, thing)


if __name__ == "__main__":
    unittest.main()
