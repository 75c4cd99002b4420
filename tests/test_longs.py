"""Long rows [16]: each function, its edges, its errors, and the guarantees."""

import itertools
import random
import unittest

from eightlots import longs
from eightlots.errors import NoNumber, NoPaper, NoWay, Unfit
from tests.helper import (BROKEN, EIGHT, EIGHTS, LAMPS, NO_ROWS, NOUGHT, ODD, PAIR, RIGHT, STRANGE, Case, broken_by_rule,
                          is_long_by_rule, length_of, odd_lot_of, some_longs, some_lots, spoiled, sum_lots, turned)


def some_rows(seed, many):
    """Rows that break each rule, and LONGS."""
    source = random.Random(seed)
    found = list(BROKEN) + some_longs(seed, many // 4)
    for row in list(found):
        bent = list(row)
        bent[source.randrange(24)] += source.choice((1, -1, 2, 4, 8, 3))
        found.append(tuple(bent))
    while len(found) < many:
        low = source.choice((0, 1))
        found.append(tuple(low + 2 * source.randrange(-40, 40) for _ in LAMPS))
    return found


def reckon_short():
    """Some LONGS of length 4 with their numbers, by the order that [16] tells: all pairs, and others of each shape."""
    found = {}
    number = 0
    for lamps in itertools.combinations(LAMPS, 2):
        for signs in itertools.product((-4, 4), repeat=2):
            found[number] = tuple(dict(zip(lamps, signs)).get(lamp, 0) for lamp in LAMPS)
            number += 1
    source = random.Random(190)
    chosen = set(source.sample(range(759), 25)) | {0, 1, 757, 758}
    for k, eight in enumerate(sorted(EIGHTS)):
        if k in chosen:
            signs_of = [own for own in itertools.product((-2, 2), repeat=8) if own.count(-2) % 2 == 0]
            for n, signs in enumerate(signs_of):
                found[number + 128 * k + n] = tuple(dict(zip(eight, signs)).get(lamp, 0) for lamp in LAMPS)
    number += 128 * 759
    for lamp in (0, 1, 9, 22, 23):
        plain = tuple(-3 if own == lamp else 1 for own in LAMPS)
        rows = sorted(turned(plain, lot) for lot in RIGHT)
        for n in sorted(set(source.sample(range(4096), 120)) | {0, 1, 4094, 4095}):
            found[number + 4096 * lamp + n] = rows[n]
    return found


SHORT = reckon_short()


class Rows(Case):

    def test_is_long(self):
        for row in some_rows(191, 400):
            self.assertIs(longs.is_long(row), is_long_by_rule(row))
            self.assertIs(longs.is_long(list(row)), False)
        for row in (PAIR, ODD, EIGHT):
            self.assert_things(longs.is_long, (), is_long_by_rule, spoiled(row) + list(NO_ROWS) + list(BROKEN))
        big = (10 ** 40 * 8,) + NOUGHT[1:]
        self.assertIs(longs.is_long(big), True)
        self.assertIs(longs.is_long((10 ** 40 * 8 + 4,) + NOUGHT[1:]), False)
        self.assertIs(longs.is_long((-3,) + (True,) + (1,) * 22), False)
        self.assertIs(longs.is_long((False,) * 24), False)

    def test_rule_broken(self):
        seen = set()
        for row in some_rows(192, 500):
            expected = broken_by_rule(row)
            if expected is None:
                self.assert_raises(NoPaper, {}, longs.rule_broken, row)
                self.assertIs(longs.is_rule_broken(row, None), False)
            else:
                seen.add(expected[0])
                self.assert_same(longs.rule_broken(row), expected)
                self.assert_same(longs.rule_broken(list(row)), expected)
                self.assertIs(longs.is_rule_broken(row, expected), True)
                self.assertIs(longs.is_rule_broken(list(row), thing=expected), True)
                self.assertIs(longs.is_rule_broken(row, list(expected)), False)
        self.assertEqual(seen, {"mixed", "lot", "sum"})

    def test_is_rule_broken(self):
        for row in BROKEN + (PAIR, NOUGHT):
            expected = broken_by_rule(row)
            things = [("sum", own) for own in range(-1, 9)] + [("lot", own) for own in some_lots(193, 20)]
            things += [("mixed", own) for own in range(-1, 25)] + [("lot", [0, 1, 2, 3]), ("sum", True), ("mixed", True)]
            things += [("lot", (False, True, 2, 3)), ("sum", "4"), ("sum",), ("sum", 4, 4), (4, "sum"), ("SUM", 4)]
            things += spoiled(expected or ("sum", 0))
            self.assert_things(longs.is_rule_broken, (row,), lambda thing: repr(thing) == repr(expected) and bool(thing), things)
        self.assertEqual(broken_by_rule((2, 1) + NOUGHT[2:]), ("mixed", 1))
        self.assertIs(longs.is_rule_broken((2, 1) + NOUGHT[2:], ("mixed", True)), False)

    def test_odd_lot(self):
        for row in some_rows(194, 300):
            mixed = len({own % 2 for own in row}) > 1
            if mixed:
                self.assert_raises(Unfit, {}, longs.odd_lot, row)
            else:
                self.assert_same(longs.odd_lot(row), odd_lot_of(row))
                self.assert_same(longs.odd_lot(list(row)), odd_lot_of(row))

    def test_wrong_rows(self):
        for bad in NO_ROWS:
            for function in (longs.odd_lot, longs.rule_broken):
                self.assert_raises(Unfit, {}, function, bad)
                self.assert_raises(Unfit, {}, function, row=bad)
            for thing in (None, ("sum", 4), STRANGE):
                self.assert_raises(Unfit, {}, longs.is_rule_broken, bad, thing)
        for bad in NO_ROWS + BROKEN:
            for function in (longs.long_length, longs.long_contrary, longs.half_long, longs.shape_of, longs.short_number):
                self.assert_raises(Unfit, {}, function, bad)
                self.assert_raises(Unfit, {}, function, long=bad)
            for function in (longs.long_product, longs.long_sum):
                self.assert_raises(Unfit, {}, function, bad, ODD)
                self.assert_raises(Unfit, {}, function, ODD, bad)
            self.assert_raises(Unfit, {}, longs.signs_turned, bad, ())
        for bad in (None, 3, "lot", (0, 1), (0,), EIGHTS[5][1:], EIGHTS[5][::-1], (False, 1, 2, 3, 4, 5, 6, 7), LAMPS + (24,),
                    [0, 1], ((),)):
            self.assert_raises(Unfit, {}, longs.signs_turned, ODD, bad)
            self.assert_raises(Unfit, {}, longs.signs_turned, lot=bad, long=PAIR)


class Sums(Case):

    def test_lengths_and_products(self):
        had = some_longs(195, 120)
        for k, one in enumerate(had):
            other = had[k - 1]
            product = sum(own * far for own, far in zip(one, other))
            self.assertEqual((product % 8, length_of(one) % 2), (0, 0))
            self.assert_same(longs.long_length(one), length_of(one))
            self.assert_same(longs.long_length(list(one)), length_of(one))
            self.assert_same(longs.long_product(one, other), product // 8)
            self.assert_same(longs.long_product(list(one), list(other)), product // 8)
            self.assertTrue((product // 8) ** 2 <= length_of(one) * length_of(other))
            both = longs.long_sum(one, other)
            self.assert_same(both, tuple(own + far for own, far in zip(one, other)))
            self.assert_same(longs.long_sum(list(one), list(other)), both)
            self.assertTrue(is_long_by_rule(both))
            self.assertEqual(length_of(both), length_of(one) + length_of(other) + 2 * (product // 8))
            self.assert_same(longs.long_contrary(one), tuple(-own for own in one))
            self.assert_same(longs.long_contrary(list(one)), tuple(-own for own in one))
        self.assert_same(longs.long_length(NOUGHT), 0)
        self.assert_same(longs.long_contrary(NOUGHT), NOUGHT)

    def test_signs_turned(self):
        source = random.Random(196)
        for long in some_longs(196, 60):
            one, other = source.choice(RIGHT), source.choice(RIGHT)
            for lot in (one, (), LAMPS):
                self.assert_same(longs.signs_turned(long, lot), turned(long, lot))
                self.assert_same(longs.signs_turned(list(long), list(lot)), turned(long, lot))
                self.assertTrue(is_long_by_rule(turned(long, lot)))
            twice = longs.signs_turned(longs.signs_turned(long, one), other)
            self.assertEqual(twice, longs.signs_turned(long, sum_lots(one, other)))

    def test_half_long(self):
        seen = set()
        for long in some_longs(197, 150) + [tuple(2 * own for own in one) for one in some_longs(198, 60)]:
            half = tuple(own // 2 for own in long)
            there = all(own % 2 == 0 for own in long) and is_long_by_rule(half)
            seen.add((long[0] % 2, there))
            if there:
                self.assert_same(longs.half_long(long), half)
                self.assert_same(longs.half_long(list(long)), half)
            else:
                self.assert_raises(NoWay, {}, longs.half_long, long)
        self.assertEqual(seen, {(0, True), (0, False), (1, False)})
        self.assert_same(longs.half_long(NOUGHT), NOUGHT)


class Short(Case):

    def test_shapes(self):
        shapes = {4: "pair", 2: "eight", 3: "odd"}
        for row in list(SHORT.values())[::5]:
            self.assertEqual(length_of(row), 4)
            self.assert_same(longs.shape_of(row), shapes[max(map(abs, row))])
            self.assert_same(longs.shape_of(list(row)), shapes[max(map(abs, row))])
        for long in some_longs(199, 100) + [longs.long_sum(EIGHT, EIGHT), (8,) + NOUGHT[1:]]:
            if length_of(long) != 4:
                self.assertIsNone(longs.shape_of(long))
                self.assert_raises(Unfit, {}, longs.short_number, long)

    def test_numbers(self):
        for number, row in SHORT.items():
            self.assertTrue(is_long_by_rule(row))
            self.assert_same(longs.short_number(row), number)
            if number < 1104 or number % 7 == 0 or number > 196000:
                self.assert_same(longs.short_at(number), row)
                self.assert_same(longs.short_number(list(row)), number)

    def test_there_and_back(self):
        source = random.Random(200)
        seen = set()
        for number in source.sample(range(196560), 250) + [1103, 1104, 98255, 98256, 196559]:
            row = longs.short_at(number)
            self.assertTrue(is_long_by_rule(row) and length_of(row) == 4)
            self.assert_same(longs.short_number(row), number)
            self.assert_same(longs.short_number(longs.long_contrary(row)) == number, False)
            seen.add(row)
        self.assertEqual(len(seen), 255)

    def test_first_and_last(self):
        self.assert_same(longs.short_at(0), (-4, -4) + NOUGHT[2:])
        self.assert_same(longs.short_at(1103), NOUGHT[2:] + (4, 4))
        self.assert_same(longs.short_at(1104), (-2,) * 8 + NOUGHT[8:])
        self.assert_same(longs.short_at(196559), max(turned((1,) * 23 + (-3,), lot) for lot in RIGHT))

    def test_no_number(self):
        for number in (-1, 196560, -196560, 196561, 10 ** 30, -10 ** 30):
            self.assert_raises(NoNumber, {"number": number}, longs.short_at, number)

    def test_products_of_short_ones(self):
        source = random.Random(201)
        rows = source.sample(list(SHORT.values()), 60)
        for one, other in itertools.combinations(rows, 2):
            if other not in (one, tuple(-own for own in one)):
                self.assertIn(longs.long_product(one, other), (-2, -1, 0, 1, 2))

    def test_signs_of_short_ones(self):
        for row in source_of_shape(2):
            self.assertEqual(len([own for own in row if own < 0]) % 2, 0)
        for row in source_of_shape(3):
            lamp = [abs(own) for own in row].index(3)
            plain = tuple(-3 if own == lamp else 1 for own in LAMPS)
            self.assertEqual(len([lot for lot in RIGHT if turned(plain, lot) == row]), 1)


def source_of_shape(size):
    """Some of SHORT whose greatest number by size is this, as the program tells them."""
    numbers = [number for number, row in SHORT.items() if max(map(abs, row)) == size]
    return [longs.short_at(number) for number in numbers[::len(numbers) // 12]]


if __name__ == "__main__":
    unittest.main()
