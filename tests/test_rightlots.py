"""Right LOTS [6]: each function, its edges, its errors, and the guarantees."""

import itertools
import random
import unittest

from eightlots import rightlots
from eightlots.errors import NoNumber, Unfit
from tests.helper import LAMPS, RIGHT, RIGHT_SET, Case, right_by_rule, some_lots, sum_lots

HEADS = sorted({lot[0] for lot in RIGHT if lot})


def number_by_rule(lot):
    """The number of a right LOT, by [6]."""
    return sum(2 ** k for k, head in enumerate(HEADS) if head in lot)


class RightLots(Case):

    def test_right_ones_are_right(self):
        self.assertEqual(len(RIGHT_SET), 4096)
        for lot in RIGHT:
            self.assertIs(rightlots.is_right(lot), True)

    def test_is_right_by_the_rule(self):
        for lot in some_lots(21, 3000):
            self.assertIs(rightlots.is_right(lot), right_by_rule(lot))
            self.assertIs(rightlots.is_right(lot), lot in RIGHT_SET)
        for size in range(4):
            for lot in itertools.combinations(LAMPS, size):
                self.assertIs(rightlots.is_right(lot), lot == ())

    def test_near_right_ones_is_none(self):
        source = random.Random(22)
        for lot in RIGHT:
            few = tuple(sorted(source.sample(LAMPS, source.randrange(1, 8))))
            self.assertIs(rightlots.is_right(sum_lots(lot, few)), False)

    def test_sums(self):
        source = random.Random(23)
        for lot in some_lots(23, 300):
            right = source.choice(RIGHT)
            self.assertTrue(rightlots.is_right(sum_lots(right, source.choice(RIGHT))))
            self.assertTrue(rightlots.is_right(sum_lots(right, LAMPS)))
            self.assertEqual(rightlots.is_right(sum_lots(right, lot)), rightlots.is_right(lot))

    def test_heads_and_base_lots(self):
        self.assert_same(rightlots.heads(), tuple(HEADS))
        self.assertEqual(len(HEADS), 12)
        expected = []
        for head in HEADS:
            found = [lot for lot in RIGHT if [lamp for lamp in lot if lamp in HEADS] == [head]]
            self.assertEqual(len(found), 1)
            expected += found
        self.assert_same(rightlots.base_lots(), tuple(expected))

    def test_numbers_of_all(self):
        by_number = {number_by_rule(lot): lot for lot in RIGHT}
        self.assertEqual(sorted(by_number), list(range(4096)))
        for number, lot in by_number.items():
            self.assert_same(rightlots.right_at(number), lot)
            self.assert_same(rightlots.right_number(lot), number)

    def test_number_of_a_sum(self):
        source = random.Random(24)
        for _ in range(500):
            one, other = source.choice(RIGHT), source.choice(RIGHT)
            both = rightlots.right_number(one) ^ rightlots.right_number(other)
            self.assertEqual(rightlots.right_number(sum_lots(one, other)), both)

    def test_each_is_the_sum_of_its_base_lots(self):
        bases = dict(zip(rightlots.heads(), rightlots.base_lots()))
        for lot in RIGHT[::7]:
            self.assertEqual(sum_lots(*[bases[lamp] for lamp in lot if lamp in bases]), lot)

    def test_edges(self):
        self.assert_same(rightlots.right_at(0), ())
        self.assert_same(rightlots.right_number(()), 0)
        self.assert_same(rightlots.right_number(LAMPS), 4095)
        self.assert_same(rightlots.right_at(4095), LAMPS)

    def test_no_number(self):
        for number in (-1, 4096, -4096, 10 ** 30, -10 ** 30):
            self.assert_raises(NoNumber, {"number": number}, rightlots.right_at, number)

    def test_number_of_one_that_is_not_right(self):
        for lot in some_lots(25, 300):
            if lot not in RIGHT_SET:
                self.assert_raises(Unfit, {}, rightlots.right_number, lot)

    def test_rights_of(self):
        for many in range(25):
            expected = sorted(lot for lot in RIGHT if len(lot) == many)
            self.assert_same(rightlots.rights_of(many), expected)
            self.assertEqual(bool(expected), many in (0, 8, 12, 16, 24))


if __name__ == "__main__":
    unittest.main()
