"""Longs led [18]: each function, its edges, its errors, and the guarantees."""

import random
import unittest

from eightlots import longled
from eightlots.errors import NoWay, Unfit
from tests.helper import (BROKEN, EIGHT, EIGHT_EXAMPLE, EIGHTS, LAMPS, LIFT, MIXED, NO_ROWS, NOUGHT, ODD, PAIR, RIGHT,
                          RIGHT_SET, SPIN, SWAP, Case, added, deep_lists, is_long_by_rule, is_plain_number, is_plain_right,
                          keeps_by_rule, length_of, mendings_of, product_by_rule, some_keeping, some_longs, some_of_length,
                          some_short, spoiled, sum_lots, times, turned)

COLUMNS = tuple(tuple(range(4 * own, 4 * own + 4)) for own in range(6))
BENT_FOURS = mendings_of((0, 5, 11, 18))
AXIS = (8,) + NOUGHT[1:]
SIGNS, LED, OVER = ("signs", (0, 1, 2, 3, 4, 5, 6, 7)), ("shuffle", MIXED), ("over", BENT_FOURS, 3)
NO_FOURS = (None, 3, "fours", (), COLUMNS[1:], COLUMNS[::-1], COLUMNS + COLUMNS[:1], (COLUMNS[0],) * 6, LAMPS,
            tuple(tuple(range(own, 24, 6)) for own in range(6)), ((0, 1, 2, 4), (3, 5, 6, 7)) + COLUMNS[2:])
NO_MOVES = (None, 3, (), "signs", ("signs",), ("signs", (0, 1)), ("signs", None), ("signs", (), ()), ("over", COLUMNS),
            ("over", COLUMNS, 6), ("over", COLUMNS, -1), ("over", COLUMNS, True), ("over", COLUMNS, None), ("shuffle", SWAP),
            ("shuffle", LAMPS[1:]), ("shuffle", MIXED, 0), ("Signs", ()), ("", ()), (0, ()), (None, LAMPS), ("turn", ()),
            ("shuffle", ()), ("over", COLUMNS[::-1], 0), ("over", COLUMNS, 0, 0), ("over", 0, COLUMNS), ("led", LAMPS),
            ((), "signs"), ("signs", EIGHTS[3][::-1]), ("shuffle", (False,) + LAMPS[1:]), ("signs", "()"))


def over_by_rule(long, fours, number):
    """long turned over."""
    found = list(long)
    for lot in fours:
        total = sum(long[lamp] for lamp in lot)
        assert total % 2 == 0
        for lamp in lot:
            found[lamp] = total // 2 - long[lamp]
    for lamp in fours[number]:
        found[lamp] = -found[lamp]
    return tuple(found)


def is_fours_by_rule(thing):
    """Whether thing are FOURS."""
    if type(thing) is not tuple or len(thing) != 6 or not all(type(own) is tuple and len(own) == 4 for own in thing):
        return False
    if not all(is_plain_number(lamp) for own in thing for lamp in own):
        return False
    if sorted(lamp for own in thing for lamp in own) != list(LAMPS) or list(thing) != sorted(thing):
        return False
    if any(list(own) != sorted(own) for own in thing):
        return False
    return all(sum_lots(one, other) in RIGHT_SET for one in thing for other in thing)


def is_move_by_rule(thing):
    """Whether thing is a MOVE."""
    if type(thing) is not tuple or not thing or type(thing[0]) is not str:
        return False
    if thing[0] == "over":
        return len(thing) == 3 and is_fours_by_rule(thing[1]) and is_plain_number(thing[2]) and 0 <= thing[2] <= 5
    if thing[0] == "signs":
        return len(thing) == 2 and is_plain_right(thing[1])
    if thing[0] != "shuffle" or len(thing) != 2 or type(thing[1]) is not tuple:
        return False
    if not all(is_plain_number(own) for own in thing[1]) or sorted(thing[1]) != list(LAMPS):
        return False
    return keeps_by_rule(thing[1])


def moved_by_rule(long, moves):
    """What MOVES make of long."""
    for move in moves:
        if move[0] == "signs":
            long = turned(long, move[1])
        elif move[0] == "over":
            long = over_by_rule(long, move[1], move[2])
        else:
            found = [0] * 24
            for lamp in LAMPS:
                found[move[1][lamp]] = long[lamp]
            long = tuple(found)
    return long


def some_fours(seed, many):
    """FOURS of all kinds."""
    source = random.Random(seed)
    found = [COLUMNS, BENT_FOURS]
    while len(found) < many:
        found.append(mendings_of(tuple(sorted(source.sample(LAMPS, 4)))))
    return found


def some_moves(seed, many):
    """MOVES of all kinds."""
    source = random.Random(seed)
    fours, shuffles = some_fours(seed, 12), some_keeping(seed, 12)
    found = [SIGNS, LED, OVER, ("signs", ()), ("signs", LAMPS), ("shuffle", LAMPS), ("over", COLUMNS, 0)]
    while len(found) < many:
        found.append(source.choice((("signs", source.choice(RIGHT)), ("shuffle", source.choice(shuffles)),
                                    ("over", source.choice(fours), source.randrange(6)))))
    return found


class Moves(Case):

    def test_turned_over(self):
        source = random.Random(321)
        fours = some_fours(321, 30)
        for long in some_longs(321, 60) + some_short(321, 30):
            own, number = source.choice(fours), source.randrange(6)
            expected = over_by_rule(long, own, number)
            self.assert_same(longled.turned_over(long, own, number), expected)
            self.assert_same(longled.turned_over(list(long), deep_lists(own), number=number), expected)
            self.assertTrue(is_long_by_rule(expected))
            self.assertEqual(length_of(expected), length_of(long))
            self.assert_same(longled.turned_over(expected, own, number), long)
            other = source.choice(some_short(322, 30))
            self.assertEqual(product_by_rule(expected, over_by_rule(other, own, number)), product_by_rule(long, other))
        for number in range(6):
            self.assert_same(longled.turned_over(NOUGHT, COLUMNS, number), NOUGHT)

    def test_turned_over_at_what_does_not_fit(self):
        for bad in NO_ROWS + BROKEN:
            self.assert_raises(Unfit, {}, longled.turned_over, bad, COLUMNS, 0)
        for bad in NO_FOURS:
            self.assert_raises(Unfit, {}, longled.turned_over, ODD, bad, 0)
        for bad in (-1, 6, 24, 10 ** 30, None, "0", True, False, (0,)):
            self.assert_raises(Unfit, {}, longled.turned_over, ODD, COLUMNS, bad)
            self.assert_raises(Unfit, {}, longled.turned_over, number=bad, fours=COLUMNS, long=ODD)

    def test_is_move(self):
        for move in some_moves(323, 40):
            self.assertTrue(is_move_by_rule(move))
            self.assertIs(longled.is_move(move), True)
            self.assertIs(longled.is_move(list(move)), False)
            self.assertIs(longled.is_move(deep_lists(move)), False)
            self.assertIs(longled.is_move(move[:1] + tuple(deep_lists(own) for own in move[1:2]) + move[2:]), False)
        for move in (("signs", EIGHT_EXAMPLE), ("signs", ()), ("over", COLUMNS, 5)):
            self.assert_things(longled.is_move, (), is_move_by_rule, spoiled(move) + list(NO_MOVES))
        things = [("shuffle", own) for own in spoiled(LIFT)[::7]] + [("over", own, 0) for own in NO_FOURS]
        self.assert_things(longled.is_move, (), is_move_by_rule, things + [("signs", own) for own in RIGHT[:40]])

    def test_rows_of_moves(self):
        source = random.Random(324)
        moves = some_moves(324, 60)
        for many in list(range(6)) + [13, 20, 20]:
            for long in some_longs(325, 10)[4:] + [ODD, PAIR, NOUGHT]:
                row = tuple(source.choice(moves) for _ in range(many))
                expected = moved_by_rule(long, row)
                self.assert_same(longled.long_moved(long, row), expected)
                self.assert_same(longled.long_moved(list(long), deep_lists(row)), expected)
                back = longled.moved_back(row)
                self.assert_same(longled.moved_back(deep_lists(row)), back)
                self.assertTrue(all(is_move_by_rule(own) for own in back))
                self.assertEqual(len(back), many)
                self.assertEqual(moved_by_rule(expected, back), long)
                self.assertEqual(length_of(expected), length_of(long))
                self.assertTrue(is_long_by_rule(expected))
        self.assert_same(longled.moved_back(()), ())
        self.assert_same(longled.long_moved(ODD, ()), ODD)
        self.assert_same(longled.moved_back((SIGNS, ("shuffle", SPIN))), (("shuffle", tuple(map(SPIN.index, LAMPS))), SIGNS))

    def test_rows_that_do_not_fit(self):
        for bad in (None, 3, "over", SIGNS, (SIGNS, None), (3,), ((),)) + tuple((SIGNS, own) for own in NO_MOVES[3:]):
            self.assert_raises(Unfit, {}, longled.long_moved, ODD, bad)
            self.assert_raises(Unfit, {}, longled.moved_back, bad)
            self.assert_raises(Unfit, {}, longled.moved_back, row=bad)
        for bad in NO_ROWS + BROKEN:
            self.assert_raises(Unfit, {}, longled.long_moved, bad, ())
            self.assert_raises(Unfit, {}, longled.long_moved, row=None, long=bad)


class Ways(Case):

    def test_way_between(self):
        rows = some_short(326, 60) + [times(-1, PAIR), times(-1, EIGHT), times(-1, ODD), NOUGHT[2:] + (4, 4), PAIR[::-1]]
        source = random.Random(326)
        seen = set()
        for one in rows:
            for other in (source.choice(rows), one, times(-1, one)):
                way = longled.way_between(one, other)
                self.assertIs(type(way), tuple)
                self.assertTrue(len(way) <= 14 and all(is_move_by_rule(own) for own in way))
                self.assertEqual(moved_by_rule(one, way), other)
                self.assertIs(longled.is_way_between(one, other, way), True)
                self.assertIs(longled.is_way_between(list(one), list(other), way), True)
                self.assertIs(longled.is_way_between(one, other, list(way)), False)
                self.assert_same(longled.way_between(list(one), list(other)), way)
                self.assert_same(longled.moved_back(way), longled.moved_back(deep_lists(way)))
                seen.add((max(map(abs, one)), max(map(abs, other))))
        self.assertEqual(len(seen), 9)

    def test_no_way_between(self):
        for bad in NO_ROWS + BROKEN + (NOUGHT, AXIS) + tuple(some_of_length(6, 327, 3)):
            self.assert_raises(Unfit, {}, longled.way_between, bad, ODD)
            self.assert_raises(Unfit, {}, longled.way_between, ODD, bad)
            self.assert_raises(Unfit, {}, longled.way_between, other=bad, one=PAIR)
            self.assert_raises(Unfit, {}, longled.triangle_of, bad)
            self.assert_raises(Unfit, {}, longled.triangle_of, long=bad)

    def test_is_way_between(self):
        row = (SIGNS, OVER, LED)
        for one in (ODD, AXIS, NOUGHT, some_longs(328, 40)[30]):
            other = moved_by_rule(one, row)

            def expected(thing, one=one, other=other):
                return (type(thing) is tuple and all(is_move_by_rule(own) for own in thing)
                        and moved_by_rule(one, thing) == other)
            things = [row, row[::-1], row + (SIGNS, SIGNS), row * 3, row + row[::-1] + row, list(row), deep_lists(row),
                      row[1:], row[:-1], row + (SIGNS,), row + (None,), (row,), row + (("signs", ()),) * 50, SIGNS, LED]
            things += spoiled(row)[:150] + [row + (own,) for own in NO_MOVES]
            self.assert_things(longled.is_way_between, (one, other), expected, things)
        self.assertIs(longled.is_way_between(NOUGHT, NOUGHT, ()), True)
        self.assertIs(longled.is_way_between(ODD, PAIR, ()), False)
        for bad in NO_ROWS + BROKEN:
            for thing in ((), None, (SIGNS,)):
                self.assert_raises(Unfit, {}, longled.is_way_between, bad, ODD, thing)
                self.assert_raises(Unfit, {}, longled.is_way_between, ODD, bad, thing)

    def test_signs_between(self):
        source = random.Random(329)
        for one in some_longs(329, 60) + some_short(329, 30):
            other = turned(one, source.choice(RIGHT))
            lot = longled.signs_between(one, other)
            self.assertTrue(is_plain_right(lot))
            self.assertEqual(turned(one, lot), other)
            self.assert_same(longled.signs_between(list(one), list(other)), lot)
        self.assertTrue(is_plain_right(longled.signs_between(NOUGHT, NOUGHT)))

    def test_no_signs_between(self):
        # With the other sign at a LOT that is not right these are LONGS, but no right LOT leads there.
        four, other = (4, 4, 4, 4) + (8,) * 20, (4, 4, 4, -4) + (8,) * 19 + (-8,)
        self.assertTrue(is_long_by_rule(four) and is_long_by_rule(other))
        for one, far in ((four, other), (ODD, PAIR), (ODD, EIGHT), (PAIR, NOUGHT), (NOUGHT, PAIR), (AXIS, AXIS[::-1]),
                         (ODD, ODD[::-1]), (EIGHT, times(3, EIGHT)), (times(3, ODD), ODD)):
            for lot in RIGHT:
                self.assertNotEqual(turned(one, lot), far)
            self.assert_raises(NoWay, {}, longled.signs_between, one, far)
            self.assert_raises(NoWay, {}, longled.signs_between, list(one), other=list(far))
        for bad in NO_ROWS + BROKEN:
            for function in (longled.signs_between, longled.pair_kind):
                self.assert_raises(Unfit, {}, function, bad, ODD)
                self.assert_raises(Unfit, {}, function, other=bad, one=ODD)

    def test_pair_kind(self):
        rows = some_longs(330, 50) + some_short(330, 50)
        for one, other in zip(rows, rows[7:] + rows[:7]):
            less = tuple(own - far for own, far in zip(one, other))
            expected = (length_of(one), length_of(other), length_of(less))
            self.assert_same(longled.pair_kind(one, other), expected)
            self.assert_same(longled.pair_kind(list(one), list(other)), expected)
            if expected[:2] == (4, 4) and one not in (other, times(-1, other)):
                self.assertIn(expected[2], (4, 6, 8, 10, 12))
        self.assert_same(longled.pair_kind(ODD, ODD), (4, 4, 0))
        self.assert_same(longled.pair_kind(ODD, times(-1, ODD)), (4, 4, 16))


def is_triangle_by_rule(thing):
    """Whether thing is a TRIANGLE."""
    if type(thing) is not tuple or len(thing) != 3 or not all(is_long_by_rule(own) for own in thing):
        return False
    return all(length_of(own) == 4 for own in thing) and added(*thing) == NOUGHT


class Triangles(Case):

    def test_triangle_of(self):
        for long in some_short(331, 90) + [PAIR[::-1], NOUGHT[2:] + (-4, -4), times(-1, ODD)]:
            found = longled.triangle_of(long)
            self.assertTrue(is_triangle_by_rule(found))
            self.assert_same(found[0], long)
            self.assertIs(longled.is_triangle(found), True)
            self.assert_same(longled.triangle_of(list(long)), found)
            moves = some_moves(331, 20)[7:12]
            self.assertIs(longled.is_triangle(tuple(moved_by_rule(own, moves) for own in found)), True)

    def test_is_triangle(self):
        for long in (PAIR, EIGHT, ODD):
            found = longled.triangle_of(long)
            six = some_of_length(6, 332, 1)[0]
            things = [found[::-1], list(found), deep_lists(found), found[:2], found + (NOUGHT,), found + found, (long,) * 3,
                      (NOUGHT,) * 3, (long, times(-1, long), NOUGHT), (six, times(-1, found[0]), added(found[0], times(-1, six))),
                      (found[1], found[0], found[2]), (times(2, long), times(-1, long), times(-1, long)),
                      tuple(times(-1, own) for own in found), tuple(times(2, own) for own in found), (long, found[1], long),
                      (list(found[0]),) + found[1:], found[:2] + (found[2][:23] + (None,),), found[:2] + (found[2][:23],)]
            self.assertIs(longled.is_triangle(found[::-1]), True)
            self.assert_things(longled.is_triangle, (), is_triangle_by_rule, things + spoiled(found)[::9])


if __name__ == "__main__":
    unittest.main()
