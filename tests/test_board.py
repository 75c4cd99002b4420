"""The board [5]: each function, its edges, its errors, and the guarantees."""

import itertools
import random
import unittest

from eightlots import board, signs
from eightlots.errors import BadLine, NoLamp, NoWay
from tests.helper import (LAMPS, RIGHT_SET, ROWS, WORDS, Case, lots_of_parity, product_of, right_by_rule, some_lots,
                          sum_lots, sum_of)
from tests.test_signs import FAR, PLACES, STILL, TRUE_SHIFT, TRUE_TURN, some_shifts, swapped, true_shifts

NO_LAMPS = (-1, 24, -24, 10 ** 30, -10 ** 30)


def shuffle_by_rule(shift, row):
    """The SHUFFLE of a SHIFT and a row, by [5]."""
    places, factors, swap = shift
    led = []
    for lamp in LAMPS:
        column, line = lamp // 4, lamp % 4
        goal = places[column]
        led.append(4 * goal + sum_of((product_of(swapped(line) if swap else line, factors[column]), row[goal])))
    return tuple(led)


class Lamps(Case):

    def test_columns_and_lines(self):
        for column, line in itertools.product(range(6), range(4)):
            lamp = board.lamp_at(column, line)
            self.assert_same((lamp, board.column_of(lamp), board.line_of(lamp)), (4 * column + line, column, line))

    def test_no_lamp(self):
        for lamp in NO_LAMPS:
            self.assert_raises(NoLamp, {"lamp": lamp}, board.column_of, lamp)
            self.assert_raises(NoLamp, {"lamp": lamp}, board.line_of, lamp=lamp)


class Lots(Case):

    def test_sum(self):
        self.assert_same(board.lot_sum(()), ())
        self.assert_same(board.lot_sum(((),)), ())
        self.assert_same(board.lot_sum((LAMPS, LAMPS)), ())
        self.assert_same(board.lot_sum((LAMPS, (), LAMPS, LAMPS)), LAMPS)
        lots = some_lots(11, 120)
        for k, lot in enumerate(lots):
            self.assert_same(board.lot_sum((lot,)), lot)
            three = (lot, lots[k - 1], lots[k - 2])
            self.assert_same(board.lot_sum(three[:2]), sum_lots(*three[:2]))
            self.assert_same(board.lot_sum(three), sum_lots(*three))

    def test_column_lamps(self):
        for lot in some_lots(12, 80):
            for column in range(6):
                expected = tuple(lamp for lamp in lot if lamp in range(4 * column, 4 * column + 4))
                self.assert_same(board.column_lamps(lot, column), expected)

    def test_signs_and_parities(self):
        for lot in some_lots(13, 200):
            columns = [[lamp % 4 for lamp in lot if lamp // 4 == column] for column in range(6)]
            self.assert_same(board.column_signs(lot), tuple(sum_of(own) for own in columns))
            tops = len([lamp for lamp in lot if lamp % 4 == 0])
            self.assert_same(board.parities(lot), tuple(len(own) % 2 for own in columns) + (tops % 2,))

    def test_signs_and_parities_of_a_sum(self):
        lots = some_lots(14, 150)
        for one, other in zip(lots, reversed(lots)):
            both = board.lot_sum((one, other))
            pairs = zip(board.column_signs(one), board.column_signs(other))
            self.assertEqual(board.column_signs(both), tuple(sum_of(pair) for pair in pairs))
            pairs = zip(board.parities(one), board.parities(other))
            self.assertEqual(board.parities(both), tuple(sum(pair) % 2 for pair in pairs))

    def test_column_ways(self):
        subsets = [lines for size in range(5) for lines in itertools.combinations(range(4), size)]
        for sign, parity in itertools.product(range(4), range(2)):
            expected = sorted(lines for lines in subsets if sum_of(lines) == sign and len(lines) % 2 == parity)
            self.assert_same(board.column_ways(sign, parity), expected)
            self.assertEqual(len(expected), 2)
            self.assertEqual(sorted(expected[0] + expected[1]), [0, 1, 2, 3])

    def test_lots_with(self):
        source = random.Random(15)
        for row in [(0,) * 6, FAR, WORDS[37]] + [source.choice(ROWS) for _ in range(25)]:
            for parity in (0, 1):
                found = board.lots_with(row, parity)
                self.assert_same(found, sorted(lots_of_parity(row, parity)))
                self.assertEqual(len(found), 64)
                tops = [board.parities(lot)[6] for lot in found]
                self.assertEqual((tops.count(0), tops.count(1)), (32, 32))

    def test_of_a_word_those_are_right_whose_top_fits(self):
        for word, parity in itertools.product(WORDS, (0, 1)):
            for lot in board.lots_with(word, parity):
                self.assertEqual(lot in RIGHT_SET, board.parities(lot)[6] == parity)
        for parity in (0, 1):
            self.assertFalse(any(right_by_rule(lot) for lot in board.lots_with(FAR, parity)))


class Drawings(Case):

    def test_drawn(self):
        self.assert_same(board.drawn(()), ("......",) * 4)
        self.assert_same(board.drawn(LAMPS), ("######",) * 4)
        for lot in some_lots(16, 150):
            lines = tuple("".join("#" if 4 * column + line in lot else "." for column in range(6)) for line in range(4))
            self.assert_same(board.drawn(lot), lines)
            self.assert_same(board.read_drawn(lines), lot)
            self.assert_same(board.read_drawn(list(lines)), lot)

    def test_bad_lines(self):
        good = ("#.....", "......", "..##..", "......")
        for place in range(4):
            for bad in ("", "#....", "#......", "#...*.", " .....", "......\n", "#....O", "#.....#....."):
                self.assert_raises(BadLine, {"number": place}, board.read_drawn, good[:place] + (bad,) + good[place + 1:])
                self.assert_raises(BadLine, {"number": place}, board.read_drawn, good[:place] + (bad,) * 3)
            self.assert_raises(BadLine, {"number": place}, board.read_drawn, good[:place])
            self.assert_raises(BadLine, {"number": place}, board.read_drawn, list(good[:place]))
        for more in (("......",), ("",), ("......", "......"), ("x", "y")):
            self.assert_raises(BadLine, {"number": 4}, board.read_drawn, good + more)


class Shuffles(Case):

    def test_board_shuffle(self):
        source = random.Random(17)
        for shift in some_shifts(17, 200):
            row = source.choice(ROWS)
            shuffle = board.board_shuffle(shift, row)
            self.assert_same(shuffle, shuffle_by_rule(shift, row))
            self.assertEqual(sorted(shuffle), list(LAMPS))
            self.assert_same(board.board_parts(shuffle), (shift, row))
            self.assert_same(board.board_parts(list(shuffle)), (shift, row))
        self.assert_same(board.board_shuffle(STILL, (0,) * 6), LAMPS)

    def test_no_parts(self):
        source = random.Random(18)
        known = [(1, 0) + LAMPS[2:], (0, 1, 3, 2) + LAMPS[4:], (4, 1, 2, 3, 0) + LAMPS[5:], LAMPS[1:] + (0,),
                 tuple(4 * (lamp % 6) + lamp // 6 for lamp in LAMPS), (0, 5, 10, 15) + LAMPS[1:5] + LAMPS[6:10]
                 + LAMPS[11:15] + LAMPS[16:]]
        for shuffle in known + [tuple(source.sample(LAMPS, 24)) for _ in range(100)]:
            self.assertEqual(sorted(shuffle), list(LAMPS))
            self.assert_raises(NoWay, {}, board.board_parts, shuffle)

    def test_no_parts_beside_some(self):
        # Each exchange of two LAMPS behind a SHUFFLE with parts: lines alone can not be exchanged so.
        shuffle = list(board.board_shuffle(TRUE_TURN, FAR))
        for one, other in itertools.combinations(LAMPS, 2):
            bent = list(shuffle)
            bent[one], bent[other] = bent[other], bent[one]
            self.assert_raises(NoWay, {}, board.board_parts, tuple(bent))

    def test_one_swap_in_one_column_alone_has_no_parts(self):
        plain, turned = board.board_shuffle(STILL, FAR), board.board_shuffle((PLACES, (1,) * 6, True), FAR)
        for column in range(6):
            mixed = plain[:4 * column] + turned[4 * column:4 * column + 4] + plain[4 * column + 4:]
            self.assertEqual(sorted(mixed), list(LAMPS))
            self.assert_raises(NoWay, {}, board.board_parts, mixed)

    def test_it_comes_of_no_other(self):
        shifts = some_shifts(19, 60)
        source = random.Random(19)
        pairs = {(shift, source.choice(ROWS)) for shift in shifts for _ in range(10)}
        self.assertEqual(len({board.board_shuffle(shift, row) for shift, row in pairs}), len(pairs))

    def test_keeping_exactly_if_true_with_a_word(self):
        source = random.Random(20)
        shifts = true_shifts(20, 12) + some_shifts(20, 12) + [TRUE_SHIFT, TRUE_TURN]
        for shift in shifts:
            for row in (source.choice(WORDS), source.choice(ROWS), FAR, (0,) * 6):
                shuffle = board.board_shuffle(shift, row)
                keeping = all(tuple(sorted(shuffle[lamp] for lamp in lot)) in RIGHT_SET for lot in RIGHT_SET)
                self.assertEqual(keeping, signs.is_true_shift(shift) and row in WORDS)


if __name__ == "__main__":
    unittest.main()
