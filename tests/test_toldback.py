"""Told back [20]: each function, its edges, its errors, and the guarantees."""

import itertools
import random
import unittest

from eightlots import toldback
from eightlots.errors import NoLamp, NoPaper, NoWay, Unfit
from tests.helper import (EIGHT_EXAMPLE, EIGHTS, LAMPS, RIGHT, Case, bits, deep_lists, is_plain_lot, is_plain_right, some_lots,
                          spoiled, sum_lots)

HEARD = ((1, 5, 6, 18), (0, 4, 8, 12, 13, 14, 15, 16, 19, 20))
RIGHT_PAIRS = tuple((bits(lot), lot) for lot in RIGHT)


def fitting_by_rule(heard):
    """All right LOTS that fit, ascending, by going through all."""
    wanted, asked = bits(heard[0]), bits(LAMPS) - bits(heard[1])
    return [lot for own, lot in RIGHT_PAIRS if own & asked == wanted]


def is_heard_by_rule(thing):
    """Whether thing is a HEARD."""
    if type(thing) is not tuple or len(thing) != 2 or not all(is_plain_lot(own) for own in thing):
        return False
    return not set(thing[0]) & set(thing[1])


def heard_by_rule(lot, unheard):
    """The HEARD of a LOT that burns."""
    return tuple(lamp for lamp in lot if lamp not in unheard), unheard


def some_heard(seed, many):
    """HEARD with nothing unheard up to sixteen LAMPS; some right LOT fits in most of them."""
    source = random.Random(seed)
    found = [HEARD, ((), ()), (LAMPS, ()), ((0,), ()), (EIGHT_EXAMPLE, ()), ((), LAMPS[:16]), ((23,), LAMPS[:16]),
             (LAMPS[16:], LAMPS[:16]), ((), EIGHTS[5]), (EIGHTS[0][1:], EIGHTS[0][:1]), ((), tuple(range(8, 24)))]
    while len(found) < many:
        unheard = tuple(sorted(source.sample(LAMPS, source.choice((0, 1, 2, 5, 7, 8, 9, 10, 12, 14, 15, 16, 16)))))
        lot = source.choice(RIGHT)
        if source.randrange(4) == 0:
            lot = sum_lots(lot, (source.choice(LAMPS),))
        found.append(heard_by_rule(lot, unheard))
    return found


class Heard(Case):

    def test_is_heard(self):
        things = some_heard(361, 40) + [(LAMPS, ()), ((), LAMPS), ((1, 5), (5, 6)), LAMPS, (LAMPS, LAMPS), (LAMPS, (23,)),
                                        (LAMPS[:12], LAMPS[12:]), ((0,), (0,)), ((), (), ()), ((),), (False, True)]
        things += [list(HEARD), (list(HEARD[0]), HEARD[1]), (HEARD[0], list(HEARD[1])), deep_lists(HEARD), ((0, True), (5,))]
        things += [((True,), (0,)), ((1,), (False,)), (None, ()), ((), None), ("", ""), ((24,), ()), ((), (24,)), ((), (-1,))]
        self.assert_things(toldback.is_heard, (), is_heard_by_rule, things + spoiled(HEARD))
        self.assertIs(toldback.is_heard(((), LAMPS)), True)

    def test_heard_of(self):
        source = random.Random(362)
        for lot in some_lots(362, 60):
            for unheard in ((), LAMPS, lot, tuple(sorted(source.sample(LAMPS, 9))), LAMPS[:16]):
                expected = heard_by_rule(lot, unheard)
                self.assert_same(toldback.heard_of(lot, unheard), expected)
                self.assert_same(toldback.heard_of(list(lot), unheard=list(unheard)), expected)
                self.assertIs(toldback.is_heard(expected), True)


class Fitting(Case):

    def test_fitting(self):
        sizes = set()
        for heard in some_heard(363, 150):
            expected = fitting_by_rule(heard)
            found = toldback.fitting(heard)
            self.assert_same(found, sorted(expected))
            self.assert_same(toldback.fitting(deep_lists(heard)), found)
            sizes.add(len(found))
            within = fitting_by_rule(((), heard[1]))
            if found:
                self.assertEqual({sum_lots(found[0], own) for own in within}, set(found))
                self.assertEqual(len(found) & (len(found) - 1), 0)
        self.assertTrue(sizes >= {0, 1, 2, 4, 8, 16, 32})

    def test_sure_and_next_lamps(self):
        seen = set()
        for heard in some_heard(364, 150):
            fits = fitting_by_rule(heard)
            if not fits:
                for function in (toldback.sure_lamps, toldback.next_lamp):
                    self.assert_raises(NoWay, {}, function, heard)
                    self.assert_raises(NoWay, {}, function, heard=deep_lists(heard))
                continue
            in_all = tuple(lamp for lamp in heard[1] if all(lamp in own for own in fits))
            in_none = tuple(lamp for lamp in heard[1] if not any(lamp in own for own in fits))
            self.assert_same(toldback.sure_lamps(heard), (in_all, in_none))
            self.assert_same(toldback.sure_lamps(deep_lists(heard)), (in_all, in_none))
            left = [lamp for lamp in heard[1] if lamp not in in_all + in_none]
            self.assert_same(toldback.next_lamp(heard), left[0] if left else None)
            self.assert_same(toldback.next_lamp(deep_lists(heard)), left[0] if left else None)
            for lamp in left:
                self.assertEqual(2 * len([own for own in fits if lamp in own]), len(fits))
            seen.add((bool(in_all), bool(in_none), bool(left)))
        self.assertEqual(len(seen), 8)

    def test_up_to_seven_are_told_back(self):
        source = random.Random(365)
        for _ in range(60):
            lot = source.choice(RIGHT)
            unheard = tuple(sorted(source.sample(LAMPS, source.randrange(8))))
            self.assert_same(toldback.fitting(toldback.heard_of(lot, unheard)), [lot])
            self.assertIsNone(toldback.next_lamp(toldback.heard_of(lot, unheard)))


class Told(Case):

    def test_told_on(self):
        source = random.Random(366)
        for heard in some_heard(366, 60):
            for lamp in heard[1]:
                for burns in (True, False):
                    left = tuple(own for own in heard[1] if own != lamp)
                    expected = (tuple(sorted(heard[0] + ((lamp,) if burns else ()))), left)
                    self.assert_same(toldback.told_on(heard, lamp, burns), expected)
                    self.assert_same(toldback.told_on(deep_lists(heard), burns=burns, lamp=lamp), expected)
            lamp = source.choice(LAMPS)
            if lamp not in heard[1]:
                self.assert_raises(Unfit, {}, toldback.told_on, heard, lamp, True)
                self.assert_raises(Unfit, {}, toldback.told_on, deep_lists(heard), lamp, False)
            for lamp in (-1, 24, 10 ** 30, -10 ** 30):
                self.assert_raises(NoLamp, {"lamp": lamp}, toldback.told_on, heard, lamp, True)
                self.assert_raises(NoLamp, {"lamp": lamp}, toldback.told_on, heard=heard, lamp=lamp, burns=False)

    def test_so_many_are_told_till_one_is_left(self):
        source = random.Random(367)
        for heard in some_heard(367, 80):
            fits = fitting_by_rule(heard)
            if not fits:
                continue
            right = source.choice(fits)
            many = len(fits)
            while many > 1:
                lamp = toldback.next_lamp(heard)
                heard = toldback.told_on(heard, lamp, lamp in right)
                many //= 2
                self.assertEqual(len(toldback.fitting(heard)), many)
                self.assertIn(right, toldback.fitting(heard))
            self.assertIsNone(toldback.next_lamp(heard))
            self.assertEqual(toldback.fitting(heard), [right])


class Within(Case):

    def test_right_within(self):
        source = random.Random(368)
        lots = [HEARD[1], LAMPS, (), EIGHTS[3], EIGHTS[3][1:], LAMPS[1:], LAMPS[:12], LAMPS[:7], EIGHT_EXAMPLE]
        lots += [tuple(sorted(source.sample(LAMPS, size))) for size in range(25) for _ in range(4)]
        seen = set()
        for unheard in lots:
            within = [lot for lot in fitting_by_rule(((), unheard)) if lot]
            if within:
                found = toldback.right_within(unheard)
                self.assertIs(type(found), tuple)
                self.assertTrue(is_plain_right(found) and found in within)
                self.assert_same(toldback.right_within(list(unheard)), found)
                seen.add(len(unheard))
            else:
                self.assertTrue(len(unheard) < 13)
                self.assert_raises(NoPaper, {}, toldback.right_within, unheard)
                self.assert_raises(NoPaper, {}, toldback.right_within, unheard=list(unheard))
        self.assertTrue(seen >= set(range(13, 25)))

    def test_seven_have_none(self):
        for unheard in itertools.islice(itertools.combinations(LAMPS, 7), 0, None, 9001):
            self.assert_raises(NoPaper, {}, toldback.right_within, unheard)


if __name__ == "__main__":
    unittest.main()
