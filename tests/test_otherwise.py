"""The same LOTS otherwise [19]: each function, its edges, its errors, and the guarantees."""

import functools
import itertools
import random
import unittest

from eightlots import otherwise
from eightlots.errors import NoLamp, NoNumber, NoWay, Unfit
from tests.helper import (LAMPS, MIXED, NOUGHT, RIGHT, RIGHT_SET, SPIN, SWAP, Case, bits, deep_lists, done_behind,
                          is_plain_lot, is_plain_number, led_by, lot_from, some_keeping, some_lots, some_shuffles, spoiled,
                          sum_lots)

NO_LOTS = (None, 3, True, "lot", (1, 0), (0, 0), (24,), (-1,), (True,), (0, None), ((0,),), "01", [3, 2], LAMPS + (24,))
NO_WORDS = (None, 3, True, False, 0, "", "Game", "ROUND", "game ", "games", "round round", ("game",), ["round"], (), [], ((),),
            {"game": 1}, 2.5)


def reckon_worths():
    """The WORTHS of all LAMPS, by the rule of [3]."""
    worths = []
    # For each number of LAMPS, to six, all sums as bits of the WORTHS of so many lesser LAMPS.
    sums = [{0}] + [set() for _ in range(6)]
    for _ in LAMPS:
        worth = 1
        while any(worth in own for own in sums):
            worth += 1
        worths.append(worth)
        sums = [own | {far ^ worth for far in ahead} for own, ahead in zip(sums, [set()] + sums)]
    return tuple(worths)


WORTHS = reckon_worths()


def worth_by_rule(lot):
    """The WORTH of a LOT."""
    return functools.reduce(lambda one, other: one ^ other, (WORTHS[lamp] for lamp in lot), 0)


def reckon_lost():
    """All lost LOTS, in their order: what LAMPS 0 to 11 and all others have for their sums are the same."""
    by_worth = {}
    for number in range(1 << 12):
        by_worth.setdefault(worth_by_rule(lot_from(number)), []).append(number)
    found = []
    for number in range(1 << 12):
        found += [own | number << 12 for own in by_worth.get(worth_by_rule(lot_from(number << 12)), [])]
    return tuple(lot_from(own) for own in sorted(found))


LOST = reckon_lost()


def reckon_round():
    """The bits of all ROUND LOTS."""
    found = {0}
    for j in range(23):
        own = 1 << 23 | sum(1 << (k * k + j) % 23 for k in range(1, 12))
        found |= {own ^ far for far in found}
    return frozenset(found)


ROUND = reckon_round()


def is_turn_by_rule(lot, thing):
    """Whether thing is a LOT of one to seven LAMPS, the greatest one in lot."""
    return is_plain_lot(thing) and len(thing) in range(1, 8) and max(thing) in lot


class Worths(Case):

    def test_worths(self):
        for lamp in LAMPS:
            self.assert_same(otherwise.lamp_worth(lamp), WORTHS[lamp])
            self.assert_same(otherwise.lamp_worth(lamp=lamp), WORTHS[lamp])
            self.assert_same(otherwise.lot_worth((lamp,)), WORTHS[lamp])
        for lot in some_lots(341, 150):
            self.assert_same(otherwise.lot_worth(lot), worth_by_rule(lot))
            self.assert_same(otherwise.lot_worth(list(lot)), worth_by_rule(lot))
        self.assert_same(otherwise.lot_worth(()), 0)

    def test_no_lamp(self):
        for lamp in (24, -1, 10 ** 30, -24):
            self.assert_raises(NoLamp, {"lamp": lamp}, otherwise.lamp_worth, lamp)
            self.assert_raises(NoLamp, {"lamp": lamp}, otherwise.lamp_worth, lamp=lamp)

    def test_no_lot(self):
        for bad in NO_LOTS:
            for function in (otherwise.lot_worth, otherwise.winning_turn, otherwise.number_of_lost, otherwise.is_round_lot):
                self.assert_raises(Unfit, {}, function, bad)
                self.assert_raises(Unfit, {}, function, lot=bad)
            for thing in (None, (), (3,)):
                self.assert_raises(Unfit, {}, otherwise.is_turn, bad, thing)
                self.assert_raises(Unfit, {}, otherwise.is_winning_turn, bad, thing)


class Turns(Case):

    def test_is_turn(self):
        for lot in ((0, 3, 9, 14), (), LAMPS, (23,), (0,), LOST[77]):
            things = [(lamp,) for lamp in LAMPS] + some_lots(342, 60) + list(LOST[:5]) + [(lamp, 23) for lamp in range(23)]
            things += [lot, list(lot), lot[-7:], lot[-8:], lot[-1:], [14], (True,), (False, 3), (0, True), (3.0,), "0"]
            things += spoiled((0, 3, 9))
            self.assert_things(otherwise.is_turn, (lot,), lambda thing: is_turn_by_rule(lot, thing), things)
            self.assertIs(otherwise.is_turn(list(lot), (14,)), 14 in lot)

    def test_winning_turns(self):
        source = random.Random(343)
        for lot in some_lots(343, 250) + [(lamp,) for lamp in LAMPS] + [LOST[5] + (23,), LAMPS[:23], LAMPS[1:]]:
            lot = tuple(sorted(set(lot)))
            worth = worth_by_rule(lot)
            if worth == 0:
                self.assert_raises(NoWay, {}, otherwise.winning_turn, lot)
                continue
            turn = otherwise.winning_turn(lot)
            self.assertTrue(is_turn_by_rule(lot, turn), (lot, turn))
            self.assertEqual(worth_by_rule(sum_lots(lot, turn)), 0)
            self.assertIs(otherwise.is_winning_turn(lot, turn), True)
            self.assertIs(otherwise.is_winning_turn(list(lot), list(turn)), False)
            self.assert_same(otherwise.winning_turn(list(lot)), turn)
            many = tuple(sorted(source.sample(LAMPS, source.randrange(1, 8))))
            expected = is_turn_by_rule(lot, many) and worth_by_rule(sum_lots(lot, many)) == 0
            self.assertIs(otherwise.is_winning_turn(lot, many), expected)

    def test_is_winning_turn(self):
        for lot in ((0, 3, 9, 14), (5, 7), (), LAMPS, LOST[900], (23,), LAMPS[:8] + (12,), LAMPS[:10]):
            def expected(thing, lot=lot):
                return is_turn_by_rule(lot, thing) and worth_by_rule(sum_lots(lot, thing)) == 0
            things = [sum_lots(lot, lost) for lost in LOST[:200]] + [sum_lots(lot, lost) for lost in LOST[-40:]]
            things += [lot, list(lot), (True,), (5, 7), [5, 7], (7,), (12,), [12], (5,), ()] + spoiled((5, 7))
            self.assert_things(otherwise.is_winning_turn, (lot,), expected, things)
        self.assertIs(otherwise.is_winning_turn(LAMPS[:8] + (12,), (12,)), True)

    def test_no_turn_wins_a_lost_lot(self):
        # A turn has at most seven LAMPS: so it is lost itself only if some such LOT is.
        self.assertEqual({len(lot) for lot in LOST}, {0, 8, 12, 16, 24})
        for lot in (LOST[1], LOST[700], LAMPS, ()):
            self.assert_raises(NoWay, {}, otherwise.winning_turn, lot)
            self.assert_raises(NoWay, {}, otherwise.winning_turn, list(lot))
            for lamp in lot:
                for other in range(lamp):
                    self.assertIs(otherwise.is_winning_turn(lot, (other, lamp)), False)


class Lost(Case):

    def test_numbers(self):
        self.assertEqual(len(LOST), 4096)
        for number, lot in enumerate(LOST):
            self.assert_same(otherwise.lost_by_number(number), lot)
            self.assert_same(otherwise.number_of_lost(lot), number)
        self.assert_same(otherwise.number_of_lost(list(LOST[77])), 77)
        self.assert_same(otherwise.lost_by_number(number=4095), LOST[4095])
        self.assert_same(otherwise.lost_by_number(0), ())

    def test_no_number(self):
        for number in (-1, 4096, 4097, -4096, 10 ** 30, -10 ** 30):
            self.assert_raises(NoNumber, {"number": number}, otherwise.lost_by_number, number)
            self.assert_raises(NoNumber, {"number": number}, otherwise.lost_by_number, number=number)
        lost = set(LOST)
        for lot in some_lots(344, 150) + [own[1:] for own in LOST[1:60]] + [own for own in RIGHT[:90] if own not in lost]:
            if lot not in lost:
                self.assert_raises(Unfit, {}, otherwise.number_of_lost, lot)
                self.assert_raises(Unfit, {}, otherwise.number_of_lost, lot=list(lot))

    def test_sums_and_distances(self):
        source = random.Random(345)
        lost = set(LOST)
        for _ in range(300):
            one, other = source.choice(LOST), source.choice(LOST)
            self.assertIn(sum_lots(one, other), lost)
            self.assertTrue(one == other or len(sum_lots(one, other)) >= 8)

    def test_gone_through_in_order(self):
        # All LOTS of LAMPS 0 to 14: those that differ from each one ahead at eight LAMPS at least.
        ahead = []
        for number in range(1 << 15):
            if all(bin(own ^ number).count("1") >= 8 for own in ahead):
                ahead.append(number)
        self.assertEqual([bits(lot) for lot in LOST[:len(ahead)]], ahead)
        self.assertEqual(len([lot for lot in LOST if bits(lot) < 1 << 15]), len(ahead))


class Rounds(Case):

    def test_is_round_lot(self):
        self.assertEqual(len(ROUND), 4096)
        for number in sorted(ROUND)[::4]:
            lot = lot_from(number)
            self.assertIn(len(lot), (0, 8, 12, 16, 24))
            self.assertIs(otherwise.is_round_lot(lot), True)
            self.assertIs(otherwise.is_round_lot(list(lot)), True)
            self.assertIs(otherwise.is_round_lot(lot[1:]), number == 0)
            near = number ^ 3 << (number % 22)
            self.assertIs(otherwise.is_round_lot(lot_from(near)), near in ROUND)
        for lot in some_lots(346, 300) + list(RIGHT[::30]) + list(LOST[::30]):
            self.assertIs(otherwise.is_round_lot(lot), bits(lot) in ROUND)

    def test_led_on_and_by_squares(self):
        squares = {k * k % 23 for k in range(1, 23)}
        for number in sorted(ROUND)[::40]:
            lot = lot_from(number)
            on = [(lamp + 1) % 23 if lamp < 23 else 23 for lamp in lot]
            self.assertIs(otherwise.is_round_lot(tuple(sorted(on))), True)
            for square in squares:
                by = [lamp * square % 23 if lamp < 23 else 23 for lamp in lot]
                self.assertIs(otherwise.is_round_lot(tuple(sorted(by))), True)


class ToBoard(Case):

    def test_shuffles(self):
        for word, lots in (("game", LOST), ("round", [lot_from(own) for own in ROUND])):
            shuffle = otherwise.shuffle_to_board(word)
            self.assertIs(type(shuffle), tuple)
            self.assertEqual(sorted(shuffle), list(LAMPS))
            self.assertEqual({led_by(shuffle, lot) for lot in lots}, RIGHT_SET)
            self.assert_same(otherwise.shuffle_to_board(word=word), shuffle)

    def test_is_shuffle_to_board(self):
        for word, lots in (("game", LOST), ("round", [lot_from(own) for own in sorted(ROUND)])):
            good = otherwise.shuffle_to_board(word)

            def expected(thing, lots=lots):
                if type(thing) is not tuple or not all(is_plain_number(own) for own in thing):
                    return False
                return sorted(thing) == list(LAMPS) and all(led_by(thing, lot) in RIGHT_SET for lot in lots)
            things = [done_behind(own, good) for own in some_keeping(347, 25)] + some_shuffles(347, 40)
            things += [done_behind(own, good) for own in (SWAP, LAMPS[::-1], LAMPS[1:] + (0,))] + [done_behind(good, SPIN)]
            things += [good[:place] + (good[place + 1], good[place]) + good[place + 2:] for place in range(23)]
            things += [good, list(good), deep_lists((good,)), good[1:], good + (24,), good[::-1], LAMPS, MIXED, NOUGHT]
            things += [tuple({0: False, 1: True}.get(own, own) for own in good)] + spoiled(good)[:120]
            things += [otherwise.shuffle_to_board(own) for own in ("game", "round")]
            self.assert_things(otherwise.is_shuffle_to_board, (word,), expected, things)
            self.assertTrue(all(otherwise.is_shuffle_to_board(word, own) for own in things[:25]))

    def test_no_word(self):
        for bad in NO_WORDS:
            self.assert_raises(Unfit, {}, otherwise.shuffle_to_board, bad)
            self.assert_raises(Unfit, {}, otherwise.shuffle_to_board, word=bad)
            for thing in (None, LAMPS, otherwise.shuffle_to_board("round")):
                self.assert_raises(Unfit, {}, otherwise.is_shuffle_to_board, bad, thing)

    def test_games_are_played_to_their_end(self):
        # Who is to turn at a LOT that is not lost wins against all answers that are drawn.
        source = random.Random(348)
        for lot in some_lots(348, 40):
            while worth_by_rule(lot):
                lot = sum_lots(lot, otherwise.winning_turn(lot))
                if lot:
                    greatest = source.choice(lot)
                    fewer = source.sample(range(greatest), min(greatest, source.randrange(7)))
                    answer = tuple(sorted(fewer)) + (greatest,)
                    self.assertIs(otherwise.is_turn(lot, answer), True)
                    self.assertIs(otherwise.is_winning_turn(lot, answer), False)
                    lot = sum_lots(lot, answer)
                    self.assertNotEqual(worth_by_rule(lot), 0)

    def test_all_turns_of_small_lots(self):
        # The rule of the GAME itself, by all turns, for all LOTS of LAMPS 0 to 9.
        loses = {}
        for number in range(1 << 10):
            lot = lot_from(number)
            turns = [few + (top,) for top in lot for many in range(7) for few in itertools.combinations(range(top), many)]
            loses[number] = not any(loses[number ^ bits(turn)] for turn in turns)
            self.assertEqual(loses[number], otherwise.lot_worth(lot) == 0)


if __name__ == "__main__":
    unittest.main()
