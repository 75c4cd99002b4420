"""Shuffles [11]: each function, its edges, its errors, and the guarantees."""

import itertools
import math
import random
import unittest

from eightlots import shuffles
from eightlots.errors import NoLamp, NoPaper, NoWay, Unfit
from tests.helper import (LAMPS, LIFT, RIGHT, RIGHT_SET, SPIN, SWAP, WORDS, Case, counts_of, done_behind,
                          is_plain_lot, is_plain_number, is_plain_right, keeps_by_rule, led_by, some_keeping,
                          some_lots, some_shuffles, spoiled, sum_of)

NO_LAMPS = (-1, 24, -24, 10 ** 30, -10 ** 30)


def is_shuffle_by_rule(thing):
    """Whether thing is a SHUFFLE."""
    return type(thing) is tuple and all(is_plain_number(own) for own in thing) and sorted(thing) == list(LAMPS)


def back_of(shuffle):
    """The SHUFFLE that leads back."""
    return tuple(shuffle.index(lamp) for lamp in LAMPS)


def step_by_rule(shuffles_had, step):
    """The SHUFFLE of one STEP."""
    if step >= 0:
        return shuffles_had[step]
    return back_of(shuffles_had[-1 - step])


def steps_by_trying(shuffles_had, lamp, goal, longest):
    """The least of the shortest STEPS, of all that are not longer than longest, by trying all; else None."""
    many = len(shuffles_had)
    singles = {step: step_by_rule(shuffles_had, step) for step in range(-many, many)}
    for length in range(longest + 1):
        for steps in itertools.product(range(-many, many), repeat=length):
            place = lamp
            for step in steps:
                place = singles[step][place]
            if place == goal:
                return steps
    return None


class Shuffles(Case):

    def test_is_shuffle(self):
        for own in some_shuffles(110, 60):
            self.assertIs(shuffles.is_shuffle(own), True)
        for own in (LAMPS, SPIN):
            self.assert_things(shuffles.is_shuffle, (), is_shuffle_by_rule, spoiled(own))
        for bent in (LAMPS[1:], LAMPS + (24,), LAMPS[:23] + (24,), LAMPS[:23] + (0,), (-1,) + LAMPS[1:],
                     (False, True) + LAMPS[2:], list(LAMPS), LAMPS + LAMPS):
            self.assertIs(shuffles.is_shuffle(bent), False)

    def test_led_lot(self):
        for shuffle, lot in zip(some_shuffles(111, 90), some_lots(111, 90)):
            self.assert_same(shuffles.led_lot(shuffle, lot), led_by(shuffle, lot))
            self.assert_same(shuffles.led_lot(list(shuffle), list(lot)), led_by(shuffle, lot))
        self.assert_same(shuffles.led_lot(SPIN, ()), ())
        self.assert_same(shuffles.led_lot(SPIN, LAMPS), LAMPS)

    def test_behind_and_back(self):
        had = some_shuffles(112, 60)
        for k, one in enumerate(had):
            other = had[k - 1]
            self.assert_same(shuffles.behind(one, other), done_behind(one, other))
            self.assert_same(shuffles.behind(list(one), list(other)), done_behind(one, other))
            self.assert_same(shuffles.shuffle_back(one), back_of(one))
            self.assert_same(shuffles.behind(one, shuffles.shuffle_back(list(one))), LAMPS)

    def test_powered(self):
        for shuffle in some_shuffles(113, 30):
            many = LAMPS
            for times in range(30):
                self.assert_same(shuffles.powered(shuffle, times), many)
                self.assert_same(shuffles.powered(list(shuffle), -times), back_of(many))
                many = done_behind(shuffle, many)
            home = shuffles.times_home(shuffle)
            for times in (10 ** 30, -10 ** 30, 10 ** 29 + 7):
                self.assert_same(shuffles.powered(shuffle, times), shuffles.powered(shuffle, times % home))

    def test_rounds(self):
        self.assert_same(shuffles.rounds(LAMPS), tuple((lamp,) for lamp in LAMPS))
        self.assert_same(shuffles.times_home(LAMPS), 1)
        self.assert_same(shuffles.rounds(LAMPS[1:] + (0,)), (LAMPS,))
        for shuffle in some_shuffles(114, 60):
            expected = []
            for lamp in LAMPS:
                way = [lamp]
                while shuffle[way[-1]] != lamp:
                    way.append(shuffle[way[-1]])
                if min(way) == lamp:
                    expected.append(tuple(way))
            self.assert_same(shuffles.rounds(shuffle), tuple(expected))
            self.assert_same(shuffles.rounds(list(shuffle)), tuple(expected))
            self.assert_same(shuffles.times_home(shuffle), math.lcm(*[len(way) for way in expected]))
            self.assert_same(shuffles.powered(shuffle, shuffles.times_home(shuffle)), LAMPS)


class Keeping(Case):

    def test_is_keeping(self):
        seen = set()
        for shuffle in some_shuffles(115, 150):
            keeps = keeps_by_rule(shuffle)
            seen.add(keeps)
            self.assert_same(shuffles.is_keeping(shuffle), keeps)
            self.assert_same(shuffles.is_keeping(list(shuffle)), keeps)
        self.assertEqual(seen, {True, False})

    def test_all_right_lots(self):
        # How many right LOTS are led to right ones, counted plainly, and what is_keeping and right_part say.
        source = random.Random(116)
        tried = some_shuffles(116, 24) + [LIFT, SPIN, SWAP, (4,) + LAMPS[1:4] + (0,) + LAMPS[5:]]
        for shuffle in tried:
            many = len([lot for lot in RIGHT if led_by(shuffle, lot) in RIGHT_SET])
            self.assert_same(shuffles.right_part(shuffle), (len(RIGHT) // many).bit_length() - 1)
            self.assertEqual(len(RIGHT), many * 2 ** shuffles.right_part(shuffle))
            self.assertEqual(shuffles.is_keeping(shuffle), many == len(RIGHT))
            self.assertEqual(shuffles.is_keeping(shuffle), shuffles.right_part(shuffle) == 0)
        self.assert_same(shuffles.right_part(LAMPS), 0)
        self.assert_same(shuffles.right_part(list(SWAP)), 1)
        self.assertTrue(max(shuffles.right_part(tuple(source.sample(LAMPS, 24))) for _ in range(30)) > 5)

    def test_led_out(self):
        for shuffle in some_shuffles(117, 90):
            if keeps_by_rule(shuffle):
                self.assert_raises(NoPaper, {}, shuffles.led_out, shuffle)
            else:
                lot = shuffles.led_out(shuffle)
                self.assertTrue(is_plain_right(lot))
                self.assertNotIn(led_by(shuffle, lot), RIGHT_SET)
                self.assertIs(shuffles.is_led_out(shuffle, lot), True)
                self.assertIs(shuffles.is_led_out(list(shuffle), list(lot)), False)

    def test_is_led_out(self):
        for shuffle in (SWAP, SPIN, LAMPS[::-1], LAMPS[1:] + (0,)):
            def expected(thing):
                return is_plain_right(thing) and led_by(shuffle, thing) not in RIGHT_SET
            things = [thing for lot in RIGHT[5:4000:999] if lot for thing in spoiled(lot)]
            self.assert_things(shuffles.is_led_out, (shuffle,), expected, things + some_lots(118, 60))
            for lot in RIGHT[::9]:
                self.assertIs(shuffles.is_led_out(shuffle, lot), expected(lot))
        self.assertIs(shuffles.is_led_out(SWAP, (False, 2, 3, 4, 8, 13, 19, 22)), False)

    def test_keeping_ones_behind_one_another(self):
        had = some_keeping(119, 30)
        for k, one in enumerate(had):
            self.assertIs(shuffles.is_keeping(shuffles.behind(one, had[k - 1])), True)
            self.assertIs(shuffles.is_keeping(shuffles.shuffle_back(one)), True)
            self.assertIs(shuffles.is_keeping(shuffles.behind(one, SWAP)), False)

    def test_counts_stay(self):
        for shuffle, lot in zip(some_keeping(120, 40), some_lots(120, 40)):
            self.assertEqual(counts_of(shuffles.led_lot(shuffle, lot)), counts_of(lot))

    def test_word_shuffle(self):
        through = {lamp: set() for lamp in LAMPS}
        for word in WORDS:
            expected = tuple(lamp - lamp % 4 + sum_of((lamp % 4, word[lamp // 4])) for lamp in LAMPS)
            self.assert_same(shuffles.word_shuffle(word), expected)
            self.assert_same(shuffles.word_shuffle(list(word)), expected)
            self.assertTrue(keeps_by_rule(expected))
            for lamp in LAMPS:
                through[lamp].add(expected[lamp])
        for lamp in LAMPS:
            self.assertEqual(through[lamp], {own for own in LAMPS if own // 4 == lamp // 4})


class Steps(Case):

    def test_by_steps(self):
        source = random.Random(121)
        self.assert_same(shuffles.by_steps((), ()), LAMPS)
        self.assert_same(shuffles.by_steps((SPIN,), ()), LAMPS)
        for many in (1, 2, 3, 24):
            had = tuple(source.sample(some_shuffles(122, 60), many))
            for length in (1, 2, 5, 40):
                steps = tuple(source.randrange(-many, many) for _ in range(length))
                led = LAMPS
                for step in steps:
                    led = done_behind(step_by_rule(had, step), led)
                self.assert_same(shuffles.by_steps(had, steps), led)
                self.assert_same(shuffles.by_steps([list(own) for own in had], list(steps)), led)
                self.assert_same(shuffles.by_steps(had, shuffles.steps_back(steps)), back_of(led))

    def test_no_steps(self):
        for many in (0, 1, 3):
            had = (SPIN, LIFT, SWAP)[:many]
            for step in (many, -many - 1, 10 ** 30, -10 ** 30):
                for steps in ((step,), (step, 0), (0, step), (0,) * 39 + (step,)):
                    self.assert_raises(Unfit, {}, shuffles.by_steps, had, steps)
                    self.assert_raises(Unfit, {}, shuffles.by_steps, steps=list(steps), shuffles=list(had))
        self.assert_raises(Unfit, {}, shuffles.by_steps, (), (0,))
        self.assert_raises(Unfit, {}, shuffles.by_steps, (), (-1,))

    def test_steps_back(self):
        self.assert_same(shuffles.steps_back(()), ())
        self.assert_same(shuffles.steps_back([3]), (-4,))
        self.assert_same(shuffles.steps_back((5, -1, 0, -7)), (6, -1, 0, -6))
        self.assert_same(shuffles.steps_back(shuffles.steps_back((5, -1, 0, -7))), (5, -1, 0, -7))

    def test_reached(self):
        source = random.Random(123)
        pool = [LIFT, SPIN, SWAP, LAMPS, (0, 2, 1) + LAMPS[3:], LAMPS[:8] + LAMPS[9:] + (8,)] + some_keeping(123, 8)
        for many in (0, 1, 1, 2, 2, 3, 4):
            had = tuple(source.sample(pool, many))
            for lamp in LAMPS:
                expected = {lamp}
                while True:
                    wider = expected | {own[place] for own in had for place in expected}
                    if wider == expected:
                        break
                    expected = wider
                found = shuffles.reached(had, lamp)
                self.assert_same(found, tuple(sorted(expected)))
                self.assert_same(shuffles.reached([list(own) for own in had], lamp), found)
                for own in had:
                    self.assertEqual(shuffles.led_lot(own, found), found)
                for goal in LAMPS:
                    if goal in expected:
                        steps = shuffles.steps_to(had, lamp, goal)
                        self.assertEqual(shuffles.by_steps(had, steps)[lamp], goal)
                    else:
                        self.assert_raises(NoWay, {}, shuffles.steps_to, had, lamp, goal)

    def test_the_least_of_the_shortest(self):
        source = random.Random(124)
        step_on = LAMPS[1:] + (0,)
        for had in ((step_on,), (LIFT, SPIN), (step_on, step_on), (SPIN, SWAP, LIFT), tuple(some_keeping(124, 7)[5:]),
                    (LAMPS, step_on)):
            for _ in range(25):
                lamp, goal = source.choice(LAMPS), source.choice(LAMPS)
                expected = steps_by_trying(had, lamp, goal, 4 if len(had) < 3 else 3)
                if expected is not None:
                    self.assert_same(shuffles.steps_to(had, lamp, goal), expected)
                    self.assert_same(shuffles.steps_to(list(had), lamp, goal), expected)
        self.assert_same(shuffles.steps_to((), 3, 3), ())
        self.assert_same(shuffles.steps_to((step_on,), 7, 7), ())
        self.assert_same(shuffles.steps_to((step_on,), 0, 11), (0,) * 11)
        self.assert_same(shuffles.steps_to((step_on,), 0, 12), (-1,) * 12)
        self.assert_same(shuffles.steps_to((step_on,) * 24, 0, 13), (-24,) * 11)

    def test_no_lamps(self):
        for lamp in NO_LAMPS:
            self.assert_raises(NoLamp, {"lamp": lamp}, shuffles.reached, (SPIN,), lamp)
            self.assert_raises(NoLamp, {"lamp": lamp}, shuffles.reached, lamp=lamp, shuffles=())
            self.assert_raises(NoLamp, {"lamp": lamp}, shuffles.steps_to, (SPIN,), lamp, 3)
            self.assert_raises(NoLamp, {"lamp": lamp}, shuffles.steps_to, (SPIN,), 3, lamp)
            self.assert_raises(NoLamp, {"lamp": lamp}, shuffles.steps_to, (), lamp, 99)
            self.assert_raises(NoLamp, {"lamp": lamp}, shuffles.steps_to, goal=98, lamp=lamp, shuffles=())
        self.assertTrue(is_plain_lot(shuffles.reached((), 23)))


if __name__ == "__main__":
    unittest.main()
