"""Rests by twice [17]: each function, its edges, its errors, and the guarantees."""

import functools
import random
import unittest

from eightlots import rests
from eightlots.errors import NoPaper, NoWay, Unfit
from tests.helper import (BROKEN, EIGHT, LAMPS, NO_ROWS, NOUGHT, ODD, PAIR, RIGHT, Case, added, all_short, broken_by_rule,
                          deep_lists, is_long_by_rule, length_of, product_by_rule, same, some_longs, some_of_length,
                          some_short, spoiled, times, turned)

AXIS = (8,) + NOUGHT[1:]
# LONGS of length 8 whose FRAMES are of other looks than that of AXIS.
FOUR = (4, 4, 4, 4) + NOUGHT[4:]
SIXES = (6,) + (-2,) * 7 + NOUGHT[8:]
SIXTEEN = (2,) * 16 + NOUGHT[16:]
FIVES = (5, -3, -3) + (1,) * 21


def less(one, other):
    """One less other, place by place."""
    return tuple(own - far for own, far in zip(one, other))


def parting_by_rule(one, other):
    """What parts two LONGS, None if nothing does."""
    for place, number in enumerate(less(one, other)):
        if number % 2:
            return ("half", place)
    return broken_by_rule(tuple(own // 2 for own in less(one, other)))


def contrary(row):
    """The contrary of a row."""
    return times(-1, row)


@functools.lru_cache(maxsize=None)
def frame_by_search(long):
    """The FRAME of a LONG of length 8: what is left of it less twice each LONG of length 4 whose product with it is 4."""
    found = {long, contrary(long)}
    for short in all_short():
        if product_by_rule(long, short) == 4:
            found.add(less(long, times(2, short)))
    return tuple(sorted(found))


def is_frame_by_rule(thing):
    """Whether thing is a FRAME, by [3]."""
    if type(thing) is not tuple or len(thing) != 48 or not all(is_long_by_rule(own) for own in thing):
        return False
    if list(thing) != sorted(set(thing)) or any(length_of(own) != 8 or contrary(own) not in thing for own in thing):
        return False
    if any(parting_by_rule(thing[0], own) is not None for own in thing):
        return False
    return all(product_by_rule(one, other) == 0 for one in thing for other in thing if other not in (one, contrary(one)))


def far_ones(rows, seed):
    """To each row one of its rest that is longer: more by twice a LONG."""
    source = random.Random(seed)
    return [added(row, times(2, source.choice(some_longs(seed, 30)))) for row in rows]


def some_pairs(seed, many):
    """Pairs of LONGS, half of them alike by twice, others parted in each way."""
    source = random.Random(seed)
    rows = some_longs(seed, many) + some_short(seed, 60)
    found = [(NOUGHT, NOUGHT), (ODD, ODD), (PAIR, contrary(PAIR)), (EIGHT, NOUGHT), (PAIR, ODD), (AXIS, NOUGHT)]
    for row in source.sample(rows, many // 2):
        found.append((row, added(row, times(2, source.choice(rows)))))
        found.append((row, added(row, source.choice((PAIR, EIGHT, ODD, AXIS, times(2, EIGHT))))))
    while len(found) < 2 * many:
        found.append((source.choice(rows), source.choice(rows)))
    return found


class Twice(Case):

    def test_alike_and_parted(self):
        seen = set()
        for one, other in some_pairs(301, 150):
            parting = parting_by_rule(one, other)
            half = tuple(own // 2 for own in less(one, other))
            self.assertIs(rests.alike_by_twice(one, other), parting is None)
            self.assertIs(rests.alike_by_twice(list(other), list(one)), parting is None)
            self.assertEqual(parting is None, all(own % 2 == 0 for own in less(one, other)) and is_long_by_rule(half))
            if parting is None:
                seen.add("alike")
                self.assert_same(rests.half_difference(one, other), half)
                self.assert_same(rests.half_difference(list(one), list(other)), half)
                self.assert_raises(NoPaper, {}, rests.parting_rule, one, other)
                self.assertIs(rests.is_parting_rule(one, other, None), False)
                self.assertIs(rests.is_parting_rule(one, other, ("sum", 0)), False)
            else:
                seen.add(parting[0])
                self.assert_raises(NoWay, {}, rests.half_difference, one, other)
                self.assert_same(rests.parting_rule(one, other), parting)
                self.assert_same(rests.parting_rule(list(one), list(other)), parting)
                self.assertIs(rests.is_parting_rule(one, list(other), parting), True)
                self.assertIs(rests.is_parting_rule(one, other, list(parting)), False)
        self.assertEqual(seen, {"alike", "half", "mixed", "lot", "sum"})

    def test_is_parting_rule(self):
        for one, other in ((PAIR, (4, 4) + NOUGHT[2:]), (ODD, PAIR), (EIGHT, NOUGHT), ((4, 4) + NOUGHT[2:], NOUGHT),
                           (AXIS, contrary(AXIS)), (added(ODD, (0, 4, 4) + NOUGHT[3:]), EIGHT)):
            parting = parting_by_rule(one, other)
            things = [(word, own) for word in ("half", "mixed", "sum") for own in range(-1, 25)]
            things += [("half", False), ("half", 0.5), ("lot", [0, 1]), ("lot", (False, True)), ("lot", ()), ("half",)]
            things += spoiled(parting or ("sum", 0)) + [parting]
            self.assert_things(rests.is_parting_rule, (one, other),
                               lambda thing: parting is not None and same(thing, parting), things)

    def test_guarantees_of_alike_ones(self):
        source = random.Random(302)
        rows = some_longs(302, 60)
        for row in rows:
            near, far = (added(row, times(2, source.choice(rows))) for _ in range(2))
            self.assertIs(rests.alike_by_twice(row, row), True)
            self.assertIs(rests.alike_by_twice(near, far), True)
            one = source.choice(rows)
            self.assertIs(rests.alike_by_twice(added(row, one), added(near, one)), True)
            self.assertIs(rests.alike_by_twice(added(row, far), added(near, near)), True)

    def test_wrong_arguments(self):
        for bad in NO_ROWS + BROKEN:
            for function in (rests.alike_by_twice, rests.half_difference, rests.parting_rule):
                self.assert_raises(Unfit, {}, function, bad, ODD)
                self.assert_raises(Unfit, {}, function, one=ODD, other=bad)
            for thing in (None, ("sum", 4), ("half", 0)):
                self.assert_raises(Unfit, {}, rests.is_parting_rule, bad, ODD, thing)
                self.assert_raises(Unfit, {}, rests.is_parting_rule, ODD, bad, thing)
                self.assert_raises(Unfit, {}, rests.is_shortest, bad, thing)
            for function in (rests.rest_kind, rests.shortest, rests.all_shortest, rests.frame_of):
                self.assert_raises(Unfit, {}, function, bad)
                self.assert_raises(Unfit, {}, function, long=bad)


class Shortest(Case):

    def check_rest(self, long, expected):
        """The shortest ones of the rest of long are expected."""
        kind = length_of(expected[0])
        found = rests.all_shortest(long)
        self.assert_same(found, sorted(expected))
        self.assert_same(rests.all_shortest(list(long)), found)
        self.assert_same(rests.rest_kind(long), kind)
        self.assertIn(rests.shortest(long), expected)
        self.assertIs(rests.is_shortest(long, rests.shortest(list(long))), True)
        for own in expected:
            self.assertIs(rests.is_shortest(long, own), True)
            self.assertIs(rests.is_shortest(list(long), list(own)), False)
        if kind == 8:
            self.assert_same(rests.frame_of(long), tuple(sorted(expected)))
        else:
            self.assert_raises(NoWay, {}, rests.frame_of, long)

    def test_kinds_nought_four_and_six(self):
        self.check_rest(NOUGHT, [NOUGHT])
        for long in far_ones([NOUGHT] * 20, 303):
            self.check_rest(long, [NOUGHT])
        for rows in (some_short(304, 40), some_of_length(6, 305, 40)):
            for row, long in zip(rows, far_ones(rows, 306)):
                self.check_rest(row, [row, contrary(row)])
                self.check_rest(long, [row, contrary(row)])

    def test_kind_eight(self):
        for row in (AXIS, FOUR, SIXES, SIXTEEN, FIVES):
            frame = frame_by_search(row)
            self.assertTrue(is_long_by_rule(row) and is_frame_by_rule(frame))
            self.check_rest(row, list(frame))
            self.check_rest(frame[17], list(frame))
            self.check_rest(far_ones([row], 307)[0], list(frame))

    def test_any_longs(self):
        seen = set()
        for long in some_longs(308, 120) + some_of_length(8, 309, 40):
            found = rests.all_shortest(long)
            kind = length_of(found[0])
            seen.add(kind)
            self.assertEqual(found, sorted(set(found)))
            self.assertEqual(len(found), {0: 1, 4: 2, 6: 2, 8: 48}[kind])
            for own in found:
                self.assertTrue(is_long_by_rule(own) and length_of(own) == kind)
                self.assertIsNone(parting_by_rule(long, own))
            self.assert_same(rests.rest_kind(long), kind)
            if length_of(long) <= 8:
                self.assertIn(long, found)
        self.assertEqual(seen, {0, 4, 6, 8})

    def test_long_numbers(self):
        far = 8 * 10 ** 40
        self.check_rest((far,) + NOUGHT[1:], [NOUGHT])
        self.check_rest((far + 4, 4) + NOUGHT[2:], [(4, 4) + NOUGHT[2:], (-4, -4) + NOUGHT[2:]])
        self.check_rest((-99,) + (97,) * 23, [ODD, contrary(ODD)])

    def test_is_shortest(self):
        for row in (PAIR, ODD, AXIS, NOUGHT, (12, 4) + NOUGHT[2:]):
            def expected(thing, row=row):
                return is_long_by_rule(thing) and length_of(thing) <= 8 and parting_by_rule(row, thing) is None
            things = some_short(310, 12) + [AXIS, contrary(AXIS), AXIS[::-1], NOUGHT, row, contrary(row), times(3, row)]
            things += spoiled(row)[:60] + spoiled(AXIS)[:40] + list(BROKEN) + [(False,) * 24, (8,) + (False,) * 23]
            self.assert_things(rests.is_shortest, (row,), expected, things)


class Frames(Case):

    def test_frames(self):
        for row in some_of_length(8, 311, 12) + [FOUR, AXIS, SIXTEEN]:
            frame = rests.frame_of(row)
            self.assertIs(is_frame_by_rule(frame), True)
            self.assertIs(rests.is_frame(frame), True)
            self.assertIn(row, frame)

    def test_is_frame(self):
        frame, far = frame_by_search(AXIS), frame_by_search(FOUR)
        bent = tuple(sorted(frame[1:-1] + (FOUR, contrary(FOUR))))
        things = [frame, far, bent, list(frame), frame[1:], frame[:-1], frame[::-1], frame[1:] + frame[:1], frame + frame[:1],
                  frame[:24] * 2, frame[24:] * 2, (frame[0],) * 48, frame + far, frame[:24] + far[24:], far[:24] + frame[24:],
                  tuple(list(own) for own in frame), frame[:-1] + (list(frame[-1]),), frame[:-1] + (FOUR,), deep_lists(frame),
                  frame[:5] + (tuple(bool(own) for own in frame[5]),) + frame[6:], (NOUGHT,) * 48, (PAIR, contrary(PAIR)) * 24,
                  tuple(tuple(False if own == 0 else own for own in row) for row in frame), tuple(range(48)), (None,) * 48,
                  frame[0] * 2, [frame], (frame,), tuple(times(2, own) for own in frame), frame[:47] + (AXIS[::-1],),
                  tuple(sorted(frame[:23] + frame[25:] + (NOUGHT, EIGHT)))]
        things += [far[:k] + (turned(far[k], (k,)),) + far[k + 1:] for k in range(0, 48, 5)]
        things += [frame[:k] + (own,) + frame[k + 1:] for k in (0, 13, 47) for own in (None, (), 3, "row", PAIR, AXIS[1:])]
        self.assertEqual([is_frame_by_rule(own) for own in things[:3]], [True, True, False])
        self.assert_things(rests.is_frame, (), is_frame_by_rule, things)

    def test_products(self):
        for row in (AXIS, FOUR, FIVES):
            frame = frame_by_search(row)
            axes = sorted(max(own, contrary(own)) for own in frame if own > NOUGHT)
            self.assertEqual(len(axes), 24)
            seen = set()
            for long in some_longs(312, 40) + some_short(312, 12) + [row]:
                expected = tuple(product_by_rule(axis, long) for axis in axes)
                self.assert_same(rests.frame_products(frame, long), expected)
                self.assert_same(rests.frame_products(deep_lists(frame), list(long)), expected)
                self.assertEqual(sum(own * own for own in expected), 8 * length_of(long))
                self.assert_same(rests.long_by_frame(frame, expected), long)
                self.assert_same(rests.long_by_frame(deep_lists(frame), list(expected)), long)
                seen.add(expected)
            self.assertEqual(len(seen), len({own for own in some_longs(312, 40) + some_short(312, 12) + [row]}))

    def test_no_long_by_frame(self):
        source = random.Random(313)
        for row in (AXIS, FOUR, SIXES):
            frame = frame_by_search(row)
            seen = set()
            for long in some_longs(314, 60):
                products = list(rests.frame_products(frame, long))
                products[source.randrange(24)] += source.choice((1, -1, 2, 4, 8))
                sums = [sum(own * axis[lamp] for own, axis in zip(products, frame[24:])) for lamp in LAMPS]
                there = all(own % 8 == 0 for own in sums) and is_long_by_rule(tuple(own // 8 for own in sums))
                seen.add(there)
                if not there:
                    self.assert_raises(NoWay, {}, rests.long_by_frame, frame, products)
                else:
                    self.assert_same(rests.long_by_frame(frame, products), tuple(own // 8 for own in sums))
            for products in (AXIS[::-1], PAIR, NOUGHT, (1,) * 24, (8,) * 24, (4,) * 24, (2,) * 24):
                sums = [sum(own * axis[lamp] for own, axis in zip(products, frame[24:])) for lamp in LAMPS]
                if all(own % 8 == 0 for own in sums) and is_long_by_rule(tuple(own // 8 for own in sums)):
                    self.assert_same(rests.long_by_frame(frame, products), tuple(own // 8 for own in sums))
                else:
                    self.assert_raises(NoWay, {}, rests.long_by_frame, frame, products)
            self.assertIn(False, seen)

    def test_wrong_arguments(self):
        frame = frame_by_search(AXIS)
        for bad in (None, 3, "frame", (), frame[1:], frame[::-1], frame + frame[:1], (AXIS,) * 48, frame[:24] * 2, AXIS,
                    frame[:-1] + (FOUR,), RIGHT[:48]):
            self.assert_raises(Unfit, {}, rests.frame_products, bad, ODD)
            self.assert_raises(Unfit, {}, rests.frame_products, frame=bad, long=(1,) * 24)
            self.assert_raises(Unfit, {}, rests.long_by_frame, bad, NOUGHT)
        for bad in NO_ROWS:
            self.assert_raises(Unfit, {}, rests.long_by_frame, frame, bad)
            self.assert_raises(Unfit, {}, rests.long_by_frame, products=bad, frame=frame)
        for bad in NO_ROWS + BROKEN:
            self.assert_raises(Unfit, {}, rests.frame_products, frame, bad)


if __name__ == "__main__":
    unittest.main()
