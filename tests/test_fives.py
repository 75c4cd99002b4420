"""Five to five [12]: each function, its edges, its errors, and the guarantees."""

import functools
import itertools
import math
import random
import unittest

from eightlots import fives
from eightlots.errors import NoLamp, NoNumber, NoPaper, NoWay, Unfit
from tests.helper import (EIGHTS, LAMPS, LIFT, SPIN, STRANGE, SWAP, Case, deep_lists, done_behind, eights_by_five,
                          is_plain_number, keeping_with, keeps_by_rule, lot_from, some_keeping, some_shuffles,
                          spoiled)

NO_LAMPS = (-1, 24, -24, 10 ** 30, -10 ** 30)
MANY = 24 * 23 * 22 * 21 * 20 * 48
STILL = ((0, 0), (1, 1), (2, 2), (3, 3), (4, 4))
NO_FIVES = ((), (0, 1, 2, 3), (0, 1, 2, 3, 4, 5), (0, 1, 2, 3, 3), (0, 1, 2, 3, 24), (-1, 0, 1, 2, 3), None, 5, "01234",
            True, (0, True, 2, 3, 4), (0, "1", 2, 3, 4), (0, (1,), 2, 3, 4), [0, 1, 2, 3], [[0, 1, 2, 3, 4]])
NO_SEVENS = NO_FIVES + ((0, 1, 2, 3, 4, 8, 7), (0, 1, 2, 3, 4, 5, 6), (0, 1, 2, 3, 4, 8, 9), (0, 1, 2, 3, 4, 5, 8, 9),
                        (0, 1, 2, 3, 4, 5), (0, 1, 2, 3, 4, 5, 5), (0, 1, 2, 3, 4, 4, 8), (0, 1, 2, 3, 4, 5, 24))
NO_MAPS = (None, 0, True, "ties", (0,), ((0,),), ((0, 1, 2),), (0, 1), ((0, 24),), ((24, 0),), ((-1, 0),), ((0, -1),),
           ((1, 0), (0, 1)), ((0, 1), (0, 2)), ((0, 1), (1, 1)), ((0, 1), (0, 1)), ((0, True),), ((False, 0),),
           ((0, None),), (("0", 1),), ((0, 1), ()), [[0, 1], [1]], ((0, 1), 5), STILL + ((5, 4),), STILL + ((4, 5),))
NO_KEEPING = (None, 3, "shuffle", (), LAMPS[1:], LAMPS + (0,), SWAP, LAMPS[::-1][1:] + (23,), LAMPS[1:] + (0,),
              (False, True) + LAMPS[2:], list(SWAP), LAMPS[:23] + (24,), ((0,),) * 24, LAMPS[:23] + (22,))


def is_seven_by_rule(thing):
    """Whether thing is a SEVEN."""
    if type(thing) is not tuple or len(thing) != 7 or not all(is_plain_number(own) for own in thing):
        return False
    if len(set(thing)) != 7 or not all(own in LAMPS for own in thing):
        return False
    eight = lot_from(eights_by_five()[tuple(sorted(thing[:5]))])
    return thing[5] in eight and thing[6] not in eight


def sevens_by_rule(lamps):
    """All SEVENS that begin with these, ascending."""
    return [lamps + more for more in itertools.product(LAMPS, repeat=2) if is_seven_by_rule(lamps + more)]


def some_maps(seed, many):
    """MAPS: no pair and all pairs, some that can be carried on and some that can not."""
    source = random.Random(seed)
    maps = [(), ((0, 0),), ((23, 23),), ((0, 23), (23, 0)), STILL, STILL + ((5, 8),), STILL + ((5, 6), (6, 7), (7, 5))]
    maps += [tuple(enumerate(SPIN)), tuple(enumerate(SWAP)), tuple(enumerate(LAMPS[::-1]))]
    had = some_keeping(seed, 60)
    while len(maps) < many:
        size = source.choice((1, 2, 3, 4, 5, 5, 6, 6, 7, 8, 12, 23, 24))
        lamps = sorted(source.sample(LAMPS, size))
        goals = source.sample(LAMPS, size)
        kind = source.randrange(3)
        if kind:
            shuffle = source.choice(had)
            goals = [shuffle[lamp] for lamp in lamps]
        if kind == 2 and size > 1:
            # Nearly one that is carried on: two goals change places.
            one, other = source.sample(range(size), 2)
            goals[one], goals[other] = goals[other], goals[one]
        maps.append(tuple(zip(lamps, goals)))
    return maps


@functools.lru_cache(maxsize=None)
def reckoned_with(ties):
    """all_with(ties), reckoned once."""
    return tuple(keeping_with(ties))


def all_with(ties):
    """All keeping SHUFFLES that carry on ties, of five pairs or more."""
    return list(reckoned_with(ties))


class Sevens(Case):

    def test_is_seven(self):
        for own in ((0, 1, 2, 3, 4, 5, 8), (23, 9, 0, 14, 5, 4, 1)):
            self.assertTrue(is_seven_by_rule(own))
            self.assert_things(fives.is_seven, (), is_seven_by_rule, spoiled(own) + list(NO_SEVENS))
        for own in itertools.permutations((0, 3, 5, 6, 7, 9, 22), 7):
            if own[0] == 6:
                self.assertIs(fives.is_seven(own), is_seven_by_rule(own))
        source = random.Random(130)
        for _ in range(400):
            own = tuple(source.sample(LAMPS, 5) + [source.choice(LAMPS), source.choice(LAMPS)])
            self.assertIs(fives.is_seven(own), is_seven_by_rule(own))

    def test_sevens_from(self):
        source = random.Random(131)
        for lamps in [(0, 1, 2, 3, 4), (23, 0, 9, 14, 5)] + [tuple(source.sample(LAMPS, 5)) for _ in range(20)]:
            expected = sevens_by_rule(lamps)
            self.assertEqual(len(expected), 48)
            self.assert_same(fives.sevens_from(lamps), sorted(expected))
            self.assert_same(fives.sevens_from(list(lamps)), expected)

    def test_by_seven(self):
        source = random.Random(132)
        for _ in range(60):
            seven, far = [source.choice(sevens_by_rule(tuple(source.sample(LAMPS, 5)))) for _ in range(2)]
            shuffle = fives.by_seven(seven, far)
            self.assertTrue(keeps_by_rule(shuffle))
            self.assertEqual(tuple(shuffle[lamp] for lamp in seven), far)
            self.assert_same(fives.by_seven(list(seven), list(far)), shuffle)
            self.assert_same(fives.by_seven(seven, seven), LAMPS)
        for _ in range(6):
            seven, far = [source.choice(sevens_by_rule(tuple(source.sample(LAMPS, 5)))) for _ in range(2)]
            self.assert_same([fives.by_seven(seven, far)], all_with(tuple(sorted(zip(seven, far)))))

    def test_wrong_ones(self):
        for bad in NO_FIVES:
            self.assert_raises(Unfit, {}, fives.sevens_from, bad)
            for function in (fives.five_to_five, fives.all_five_to_five):
                self.assert_raises(Unfit, {}, function, bad, (0, 1, 2, 3, 4))
                self.assert_raises(Unfit, {}, function, (0, 1, 2, 3, 4), bad)
                self.assert_raises(Unfit, {}, function, goals=bad, lamps=bad)
        for bad in NO_SEVENS:
            self.assert_raises(Unfit, {}, fives.by_seven, bad, (0, 1, 2, 3, 4, 5, 8))
            self.assert_raises(Unfit, {}, fives.by_seven, (0, 1, 2, 3, 4, 5, 8), bad)


class FiveToFive(Case):

    def test_all_of_them(self):
        source = random.Random(133)
        fives_had = [tuple(source.sample(LAMPS, 5)) for _ in range(25)] + [(0, 1, 2, 3, 4), (4, 3, 2, 1, 0)]
        for k, lamps in enumerate(fives_had):
            goals = fives_had[k - 1]
            found = fives.all_five_to_five(lamps, goals)
            self.assertEqual(found, sorted(set(found)))
            self.assertTrue(all(tuple(own[lamp] for lamp in lamps) == goals for own in found))
            seven = sevens_by_rule(lamps)[17]
            # Each SEVEN that begins with goals is told by just one of them.
            self.assertEqual(sorted(tuple(own[lamp] for lamp in seven) for own in found), sevens_by_rule(goals))
            self.assertTrue(all(keeps_by_rule(own) for own in found[::5]))
            self.assert_same(fives.all_five_to_five(list(lamps), list(goals)), found)
            self.assertIn(fives.five_to_five(lamps, goals), found)
            self.assert_same(fives.five_to_five(list(lamps), list(goals)), fives.five_to_five(lamps, goals))

    def test_all_by_trying(self):
        source = random.Random(134)
        for _ in range(4):
            lamps, goals = source.sample(LAMPS, 5), source.sample(LAMPS, 5)
            self.assert_same(fives.all_five_to_five(lamps, goals), all_with(tuple(sorted(zip(lamps, goals)))))


class Carried(Case):

    def test_maps(self):
        seen = set()
        for ties in some_maps(135, 150):
            first = next(keeping_with(ties), None)
            seen.add((len(ties) > 5, first is None))
            self.assert_same(fives.can_carry(ties), first is not None)
            self.assert_same(fives.can_carry(deep_lists(ties)), first is not None)
            if first is None:
                self.assert_raises(NoWay, {}, fives.carried_on, ties)
                self.assert_raises(NoWay, {}, fives.told_ties, ties)
                self.assert_same(fives.many_carried(ties), 0)
                self.assert_same(fives.all_carried(ties), [])
                self.assert_same(fives.next_places(ties, 3), ())
            else:
                self.assert_same(fives.carried_on(ties), first)
                self.assert_same(fives.carried_on(deep_lists(ties)), first)
        self.assertEqual(seen, {(True, True), (True, False), (False, False)})

    def test_many_carried(self):
        for ties in some_maps(136, 100):
            if len(ties) <= 5:
                expected = 48 * math.prod(range(20, 25 - len(ties)))
            else:
                expected = len(all_with(ties))
            self.assert_same(fives.many_carried(ties), expected)
            self.assert_same(fives.many_carried(deep_lists(ties)), expected)
        self.assert_same(fives.many_carried(()), MANY)
        self.assert_same(fives.many_carried(((7, 7),)), MANY // 24)
        self.assert_same(fives.many_carried(STILL), 48)

    def test_all_carried(self):
        for ties in some_maps(137, 60):
            if len(ties) < 5:
                self.assert_raises(Unfit, {}, fives.all_carried, ties)
            else:
                self.assert_same(fives.all_carried(ties), all_with(ties))
                self.assert_same(fives.all_carried(deep_lists(ties)), all_with(ties))

    def test_next_places(self):
        source = random.Random(138)
        for ties in some_maps(138, 70):
            if len(ties) >= 5:
                found = all_with(ties)
            for lamp in source.sample(LAMPS, 5) + [pair[0] for pair in ties[:2]]:
                if len(ties) >= 5:
                    expected = tuple(sorted({own[lamp] for own in found}))
                elif lamp in dict(ties):
                    expected = (dict(ties)[lamp],)
                else:
                    # At most five pairs are carried on, whatever they are.
                    expected = tuple(goal for goal in LAMPS if goal not in dict(ties).values())
                self.assert_same(fives.next_places(ties, lamp), expected)
                self.assert_same(fives.next_places(deep_lists(ties), lamp), expected)
                for goal in expected[:2]:
                    self.assertTrue(fives.can_carry(tuple(sorted(set(ties) | {(lamp, goal)}))))

    def test_told_ties(self):
        for ties in some_maps(139, 80):
            if len(ties) < 5:
                self.assert_same(fives.told_ties(ties), ties)
                self.assert_same(fives.told_ties(deep_lists(ties)), ties)
                continue
            found = all_with(ties)
            if found:
                expected = tuple((lamp, found[0][lamp]) for lamp in LAMPS if len({own[lamp] for own in found}) == 1)
                self.assert_same(fives.told_ties(ties), expected)
                self.assert_same(fives.told_ties(deep_lists(ties)), expected)
                self.assertTrue(set(ties) <= set(expected))
            else:
                self.assert_raises(NoWay, {}, fives.told_ties, ties)
        self.assert_same(fives.told_ties(STILL), STILL)
        self.assert_same(len(fives.told_ties(STILL + ((5, 5), (8, 8)))), 24)

    def test_few_pairs_tell_no_more(self):
        for ties in [own for own in some_maps(140, 120) if len(own) < 5][:12]:
            for lamp in [own for own in LAMPS if own not in dict(ties)][::3]:
                self.assertEqual(len(fives.next_places(ties, lamp)), 24 - len(ties))
                goals = [goal for goal in LAMPS if goal not in dict(ties).values()]
                for goal in (goals[0], goals[-1]):
                    shuffle = fives.carried_on(tuple(sorted(ties + ((lamp, goal),))))
                    self.assertTrue(keeps_by_rule(shuffle) and shuffle[lamp] == goal)

    def test_seven_places_tell_a_shuffle(self):
        for shuffle in some_keeping(141, 30):
            ties = tuple((lamp, shuffle[lamp]) for lamp in (0, 1, 2, 3, 4, 5, 8))
            self.assert_same(fives.all_carried(ties), [shuffle])

    def test_no_maps(self):
        for bad in NO_MAPS:
            for function in (fives.can_carry, fives.carried_on, fives.many_carried, fives.all_carried, fives.told_ties,
                             fives.bar_for):
                self.assert_raises(Unfit, {}, function, bad)
                self.assert_raises(Unfit, {}, function, ties=bad)
            for lamp in (0, 24):
                self.assert_raises(Unfit, {}, fives.next_places, bad, lamp)
            for thing in (None, (), 5):
                self.assert_raises(Unfit, {}, fives.is_bar_for, bad, thing)

    def test_no_lamps(self):
        for lamp in NO_LAMPS:
            for ties in ((), STILL, STILL + ((5, 8),)):
                self.assert_raises(NoLamp, {"lamp": lamp}, fives.next_places, ties, lamp)


def is_bar_by_rule(ties, thing):
    """Whether thing is a BAR of ties."""
    if type(thing) is not tuple or not all(type(own) is tuple and len(own) == 2 for own in thing):
        return False
    if len(ties) < 5 or [repr(own[0]) for own in thing] != [repr(own) for own in all_with(ties[:5])]:
        return False
    for shuffle, place in thing:
        if not is_plain_number(place) or place not in range(len(ties)):
            return False
        if shuffle[ties[place][0]] == ties[place][1]:
            return False
    return True


class Bars(Case):

    def test_each_map_is_carried_on_or_barred(self):
        for ties in some_maps(142, 100):
            if next(keeping_with(ties), None):
                self.assert_raises(NoPaper, {}, fives.bar_for, ties)
            else:
                bar = fives.bar_for(ties)
                self.assertTrue(is_bar_by_rule(ties, bar))
                self.assertEqual(list(bar), sorted(set(bar)))
                self.assert_same(fives.bar_for(deep_lists(ties)), bar)
                self.assertIs(fives.is_bar_for(ties, bar), True)
                self.assertIs(fives.is_bar_for(deep_lists(ties), bar), True)

    def test_is_bar_for(self):
        source = random.Random(143)
        for ties in (STILL + ((5, 8),), STILL + ((7, 5), (8, 8), (9, 10)), tuple(enumerate(SWAP))):
            bar = fives.bar_for(ties)
            things = list(STRANGE) + [list(bar), deep_lists(bar), bar[1:], bar[:-1], bar[::-1], bar + bar[-1:], bar[:1],
                                      bar + bar, (bar,), bar[:5] + bar[6:] + bar[5:6], bar[:1] + bar[:1] + bar[2:]]
            for k in source.sample(range(48), 6):
                shuffle, place = bar[k]
                swapped = (shuffle[1], shuffle[0]) + shuffle[2:]
                others = [(shuffle, own) for own in range(-2, len(ties) + 2)]
                others += [(shuffle, own) for own in (None, True, False, "0", (5,), [5], 10 ** 30)]
                others += [(swapped, place), (list(shuffle), place), [shuffle, place], (shuffle,), (place, shuffle), None]
                others += [(shuffle, place, place), (shuffle[:23], place), (None, place), (SWAP, place), ()]
                others += [((shuffle[0] == 1,) + shuffle[1:], place)]
                things += [bar[:k] + (own,) + bar[k + 1:] for own in others]
            for thing in things:
                self.assertIs(fives.is_bar_for(ties, thing), is_bar_by_rule(ties, thing))
                self.assertIs(fives.is_bar_for(ties=deep_lists(ties), thing=thing), is_bar_by_rule(ties, thing))

    def test_truths_are_no_numbers(self):
        ties = STILL + ((5, 8),)
        bar = fives.bar_for(ties)
        self.assertEqual(bar[0], (LAMPS, 5))
        bent = (((False, True) + LAMPS[2:], 5),) + bar[1:]
        self.assertEqual(bent, bar)
        self.assertIs(fives.is_bar_for(ties, bent), False)

    def test_all_places_that_stand_there(self):
        # The document leaves a choice: each place of a pair that is not carried on is as good.
        ties = STILL + ((5, 8), (6, 9), (7, 10))
        bar = []
        for shuffle in all_with(STILL):
            bar.append((shuffle, max(k for k, (lamp, goal) in enumerate(ties) if shuffle[lamp] != goal)))
        self.assertIs(fives.is_bar_for(ties, tuple(bar)), True)

    def test_no_bar_of_what_is_carried_on(self):
        self.assertIs(fives.is_bar_for((), ()), False)
        self.assertIs(fives.is_bar_for(((0, 0),), ()), False)
        bar = fives.bar_for(STILL + ((5, 8),))
        for ties in ((), STILL[:2], STILL, STILL + ((5, 6),), STILL + ((5, 5),), tuple(enumerate(LAMPS))):
            self.assertIs(fives.is_bar_for(ties, bar), False)
            self.assertIs(fives.is_bar_for(ties, tuple((own, 4) for own in all_with(STILL))), False)
            self.assertIs(fives.is_bar_for(ties, ()), False)


class Numbers(Case):

    def test_how_many(self):
        self.assert_same(fives.how_many_shuffles(), MANY)
        self.assert_same(fives.how_many_shuffles(), fives.many_carried(()))

    def test_numbers(self):
        source = random.Random(144)
        numbers = [0, 1, 47, 48, 49, 959, 960, 961, 20159, 20160, 443519, 443520, MANY // 24 - 1, MANY // 24, MANY - 2,
                   MANY - 1]
        numbers += [source.randrange(MANY) for _ in range(60)]
        found = []
        for number in sorted(set(numbers)):
            shuffle = fives.shuffle_at(number)
            self.assertTrue(keeps_by_rule(shuffle))
            self.assert_same(fives.shuffle_number(shuffle), number)
            self.assert_same(fives.shuffle_number(list(shuffle)), number)
            found.append(shuffle)
        self.assertEqual(found, sorted(set(found)))

    def test_the_first_ones(self):
        first = list(itertools.islice(keeping_with(()), 200))
        self.assertEqual(first, sorted(first))
        for number, shuffle in enumerate(first):
            self.assert_same(fives.shuffle_at(number), shuffle)
            self.assert_same(fives.shuffle_number(shuffle), number)

    def test_as_many_are_less(self):
        # Of those that lead 0 to an earlier goal there are MANY // 24 for each, and so on.
        for shuffle in some_keeping(145, 20):
            less, size, free = 0, MANY, list(LAMPS)
            for goal in shuffle[:5]:
                size //= len(free)
                less += size * free.index(goal)
                free.remove(goal)
            ties = tuple(enumerate(shuffle[:5]))
            self.assert_same(fives.shuffle_number(shuffle), less + all_with(ties).index(shuffle))

    def test_no_number(self):
        for number in (-1, MANY, -MANY, MANY + 1, 10 ** 30, -10 ** 30):
            self.assert_raises(NoNumber, {"number": number}, fives.shuffle_at, number)

    def test_no_keeping_shuffle(self):
        bad = list(NO_KEEPING) + [own for own in some_shuffles(146, 40) if not keeps_by_rule(own)]
        for shuffle in bad:
            self.assert_raises(Unfit, {}, fives.shuffle_number, shuffle)
            self.assert_raises(Unfit, {}, fives.in_steps, shuffle=shuffle)


class Chains(Case):

    def test_chain_step(self):
        for lamp in range(5):
            for goal in range(lamp, 24):
                ties = tuple((own, own) for own in range(lamp)) + ((lamp, goal),)
                self.assert_same(fives.chain_step(lamp, goal), next(keeping_with(ties)))
        for lamp in range(5):
            self.assert_same(fives.chain_step(lamp, lamp), LAMPS)

    def test_no_chain_step(self):
        for lamp in NO_LAMPS:
            self.assert_raises(NoLamp, {"lamp": lamp}, fives.chain_step, lamp, 3)
            self.assert_raises(NoLamp, {"lamp": lamp}, fives.chain_step, 3, lamp)
            self.assert_raises(NoLamp, {"lamp": lamp}, fives.chain_step, 7, lamp)
            self.assert_raises(NoLamp, {"lamp": lamp}, fives.chain_step, goal=99, lamp=lamp)
        for lamp, goal in ((5, 5), (5, 9), (23, 23), (4, 3), (1, 0), (4, 0), (23, 0)):
            self.assert_raises(Unfit, {}, fives.chain_step, lamp, goal)

    def test_in_steps(self):
        for shuffle in some_keeping(147, 40):
            steps = fives.in_steps(shuffle)
            self.assert_same(fives.in_steps(list(shuffle)), steps)
            self.assertEqual(len(steps), 6)
            done = LAMPS
            for step in reversed(steps):
                done = done_behind(step, done)
            self.assert_same(done, shuffle)
            for k, step in enumerate(steps[:5]):
                self.assert_same(step, fives.chain_step(k, step[k]))
            self.assertEqual(steps[5][:5], (0, 1, 2, 3, 4))
            self.assertTrue(keeps_by_rule(steps[5]))
        self.assert_same(fives.in_steps(LAMPS), (LAMPS,) * 6)
        self.assertTrue(keeps_by_rule(LIFT) and len(EIGHTS) == 759)


if __name__ == "__main__":
    unittest.main()
