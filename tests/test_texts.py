"""Texts [22]: each function, its edges, its errors, and the guarantees."""

import random
import unittest

from eightlots import texts
from eightlots.errors import BadLine, Unfit
from tests.helper import (BROKEN, EIGHT, LAMPS, LIFT, NOUGHT, ODD, PAIR, SPIN, SWAP, Case, is_long_by_rule, led_by, some_longs,
                          some_lots, some_short, some_shuffles)

ROUND = "shuffle\n 0 4 8 12 16 20\n 2 6 10 14 18 22\n 3 7 11 15 19 23\n 1 5 9 13 17 21"
LOT = "lot\n *.....\n .*..*.\n ..*...\n ..*..."
LONG = "long\n 4 0 0 0 0 0\n 0 0 0 0 0 4\n 0 0 0 0 0 0\n 0 0 0 0 0 0"
BLANK, FEED = " ", "\n"


def lot_by_rule(lot):
    """The text of a LOT."""
    text = "lot"
    for line in range(4):
        text += FEED + BLANK
        for column in range(6):
            text += "*" if 4 * column + line in lot else "."
    return text


def numbers_by_rule(word, row):
    """The text of a SHUFFLE or a LONG."""
    text = word
    for line in range(4):
        text += FEED
        for column in range(6):
            text += BLANK + str(row[4 * column + line])
    return text


def is_begun_lot(lines):
    """Whether these lines begin the text of some LOT."""
    return lines[0] == "lot" and len(lines) <= 5 and all(
        len(line) == 7 and line[0] == BLANK and set(line[1:]) <= {"*", "."} for line in lines[1:])


def is_begun_shuffle(lines):
    """Whether these lines begin the text of some SHUFFLE."""
    if lines[0] != "shuffle" or len(lines) > 5:
        return False
    words = []
    for line in lines[1:]:
        own = line.split(BLANK)
        if len(own) != 7 or own[0] != "":
            return False
        words += own[1:]
    return all(word in [str(lamp) for lamp in LAMPS] for word in words) and len(set(words)) == len(words)


def is_number_text(word):
    """Whether word is a number in figures."""
    digits = word.removeprefix("-")
    return digits != "" and set(digits) <= set("0123456789") and str(int(word)) == word


def is_begun_long(lines):
    """Whether these lines begin the text of some row of numbers."""
    if lines[0] != "long" or len(lines) > 5:
        return False
    rows = [line.split(BLANK) for line in lines[1:]]
    return all(len(row) == 7 and row[0] == "" and all(map(is_number_text, row[1:])) for row in rows)


def bad_line(text, is_begun):
    """The number of the bad line of a text; None without one."""
    lines = text.split(FEED) if text else []
    for number in range(1, len(lines) + 1):
        if not is_begun(lines[:number]):
            return number
    return len(lines) + 1 if len(lines) < 5 else None


def bent_texts(text, seed):
    """Texts that are nearly this one: lines lacking, doubled, changed; signs lacking, doubled, changed."""
    source = random.Random(seed)
    lines = text.split(FEED)
    found = ["", FEED, BLANK, text + FEED, FEED + text, text + FEED + FEED, text + FEED + lines[4], text + BLANK, BLANK + text,
             text.upper(), text.replace(BLANK, ""), text.replace(BLANK, BLANK * 2), text.replace(FEED, FEED * 2), text * 2,
             text.replace(FEED, BLANK), text.replace(FEED + BLANK, FEED), text + FEED + "more", text[::-1], "lot", "shuffle",
             "long", "lot\n", "shuffle\n", "long\n", "word\n" + text, text.replace("0", "00"), text.replace(" 0", " -0")]
    for number in range(5):
        found += [FEED.join(lines[:number]), FEED.join(lines[:number] + lines[number + 1:])]
        found += [FEED.join(lines[:number] + lines[number:number + 1] * 2 + lines[number + 1:])]
        for own in ("", BLANK, BLANK * 7, lines[number] + BLANK, lines[number][1:], BLANK + lines[number], lines[number][:-1],
                    lines[number] + lines[number][-1:], lines[number] + " 0", lines[number][:-1] + "x", " 0 0 0 0 0 0",
                    " 1 2 3 4 5", " 1 2 3 4 5 6 7", " 24 1 2 3 4 5", " 01 2 3 4 5 6", " +1 2 3 4 5 6", " -1 2 3 4 5 6",
                    " 1 2 3 4 5 -", " 1 2 3 4 5 --6", " 1 2 3  4 5", " 1.0 2 3 4 5 6", " 1_0 2 3 4 5 6", " ......", " ****.#",
                    " 0 1 2 3 4 4", " 99 -99 1 3 5 7", "lot", "-" + lines[number], " 007 1 2 3 4 5", " 1 2 3 4 5 1e3"):
            found.append(FEED.join(lines[:number] + [own] + lines[number + 1:]))
    for _ in range(150):
        place = source.randrange(len(text))
        sign = source.choice("0123456789 -.*\nlotshuflng~!")
        found.append(text[:place] + source.choice((sign, "", sign + text[place], text[place])) + text[place + 1:])
    return found


class Written(Case):

    def test_lots(self):
        for lot in some_lots(381, 150):
            text = lot_by_rule(lot)
            self.assert_same(texts.lot_text(lot), text)
            self.assert_same(texts.lot_text(list(lot)), text)
            self.assert_same(texts.read_lot(text), lot)
            self.assert_same(texts.read_lot(text=text), lot)

    def test_shuffles(self):
        for shuffle in some_shuffles(382, 80):
            text = numbers_by_rule("shuffle", shuffle)
            self.assert_same(texts.shuffle_text(shuffle), text)
            self.assert_same(texts.shuffle_text(list(shuffle)), text)
            self.assert_same(texts.read_shuffle(text), shuffle)
            self.assert_same(texts.read_shuffle(text=text), shuffle)

    def test_longs(self):
        for row in some_longs(383, 100) + some_short(383, 30) + [(-8 * 10 ** 30,) + NOUGHT[1:]]:
            text = numbers_by_rule("long", row)
            self.assert_same(texts.long_text(row), text)
            self.assert_same(texts.long_text(row=list(row)), text)
            self.assert_same(texts.read_long(text), row)
            self.assert_same(texts.read_long(text=text), row)

    def test_unlike_things_have_unlike_texts(self):
        lots = set(some_lots(384, 300))
        self.assertEqual(len({texts.lot_text(lot) for lot in lots}), len(lots))
        rows = set(some_longs(384, 100))
        self.assertEqual(len({texts.long_text(row) for row in rows}), len(rows))

    def test_each_board_of_signs_is_one_of_a_lot(self):
        source = random.Random(385)
        seen = set()
        for _ in range(200):
            rows = ["".join(source.choice("*.") for _ in range(6)) for _ in range(4)]
            text = FEED.join(["lot"] + [BLANK + row for row in rows])
            self.assert_same(texts.lot_text(texts.read_lot(text)), text)
            seen.add(texts.read_lot(text))
        self.assertEqual(len(seen), 200)

    def test_columns_and_lines_exchanged(self):
        source = random.Random(386)
        for lot in some_lots(386, 50):
            one, other = source.sample(range(6), 2)
            lines = texts.lot_text(lot).split(FEED)
            columns = {one: other, other: one}
            shuffle = tuple(4 * columns.get(lamp // 4, lamp // 4) + lamp % 4 for lamp in LAMPS)
            for number in range(1, 5):
                marks = list(lines[number])
                marks[one + 1], marks[other + 1] = marks[other + 1], marks[one + 1]
                lines[number] = "".join(marks)
            self.assert_same(texts.lot_text(led_by(shuffle, lot)), FEED.join(lines))
            one, other = source.sample(range(4), 2)
            lines = texts.lot_text(lot).split(FEED)
            rows = {one: other, other: one}
            shuffle = tuple(lamp - lamp % 4 + rows.get(lamp % 4, lamp % 4) for lamp in LAMPS)
            lines[one + 1], lines[other + 1] = lines[other + 1], lines[one + 1]
            self.assert_same(texts.lot_text(led_by(shuffle, lot)), FEED.join(lines))


class Read(Case):

    def check(self, function, is_begun, text, fits=None):
        """function(text) raises as it must; the number of the bad line, None if it reads it."""
        number = bad_line(text, is_begun)
        if number is not None:
            self.assert_raises(BadLine, {"number": number}, function, text)
            self.assert_raises(BadLine, {"number": number}, function, text=text)
        elif fits is not None and not fits(text):
            self.assert_raises(Unfit, {}, function, text)
            return "unfit"
        else:
            function(text)
        return number

    def test_read_lot(self):
        seen = set()
        for good in (LOT, lot_by_rule(()), lot_by_rule(LAMPS)):
            for text in bent_texts(good, 387) + [good, ROUND, LONG]:
                seen.add(self.check(texts.read_lot, is_begun_lot, text))
                if bad_line(text, is_begun_lot) is None:
                    self.assert_same(lot_by_rule(texts.read_lot(text)), text)
        self.assertEqual(seen, {None, 1, 2, 3, 4, 5, 6})

    def test_read_shuffle(self):
        seen = set()
        for good in (ROUND,) + tuple(numbers_by_rule("shuffle", own) for own in (LAMPS, SWAP, SPIN, LIFT)):
            for text in bent_texts(good, 388) + [good, LOT, LONG]:
                seen.add(self.check(texts.read_shuffle, is_begun_shuffle, text))
                if bad_line(text, is_begun_shuffle) is None:
                    self.assert_same(numbers_by_rule("shuffle", texts.read_shuffle(text)), text)
        self.assertEqual(seen, {None, 1, 2, 3, 4, 5, 6})

    def fits_long(self, text):
        """Whether the numbers of a text that has no bad line are a LONG."""
        rows = [[int(word) for word in line.split()] for line in text.split(FEED)[1:]]
        return is_long_by_rule(tuple(rows[lamp % 4][lamp // 4] for lamp in LAMPS))

    def test_read_long(self):
        seen = set()
        for good in (LONG,) + tuple(numbers_by_rule("long", own) for own in (NOUGHT, PAIR, ODD, EIGHT) + BROKEN):
            for text in bent_texts(good, 389) + [good, LOT, ROUND]:
                seen.add(self.check(texts.read_long, is_begun_long, text, self.fits_long))
                if bad_line(text, is_begun_long) is None and self.fits_long(text):
                    self.assert_same(numbers_by_rule("long", texts.read_long(text)), text)
        self.assertEqual(seen, {None, "unfit", 1, 2, 3, 4, 5, 6})

    def test_edges(self):
        for function, good in ((texts.read_lot, LOT), (texts.read_shuffle, ROUND), (texts.read_long, LONG)):
            lines = good.split(FEED)
            self.assert_raises(BadLine, {"number": 1}, function, "")
            self.assert_raises(BadLine, {"number": 1}, function, FEED)
            for many in range(1, 5):
                self.assert_raises(BadLine, {"number": many + 1}, function, FEED.join(lines[:many]))
                self.assert_raises(BadLine, {"number": many + 1}, function, FEED.join(lines[:many]) + FEED)
            self.assert_raises(BadLine, {"number": 6}, function, good + FEED)
            self.assert_raises(BadLine, {"number": 6}, function, good + FEED + lines[4])
            self.assert_raises(BadLine, {"number": 6}, function, good + FEED * 35)
            self.assert_raises(BadLine, {"number": 3}, function, FEED.join(lines[:2] + [" "] + lines[3:]))
        told_twice = ROUND.replace(" 18 ", " 16 ")
        self.assert_raises(BadLine, {"number": 3}, texts.read_shuffle, told_twice)
        self.assert_raises(BadLine, {"number": 5}, texts.read_shuffle, ROUND.replace(" 21", " 24"))
        self.assert_raises(BadLine, {"number": 2}, texts.read_shuffle, ROUND.replace(" 0 4", " 4 4"))
        self.assert_raises(BadLine, {"number": 2}, texts.read_long, LONG.replace("4 0", "-0 0", 1))
        self.assert_raises(Unfit, {}, texts.read_long, LONG.replace("4", "2", 1))


if __name__ == "__main__":
    unittest.main()
