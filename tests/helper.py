"""The tests' own reckoning, by the words of the document alone, and what all tests share.

Nothing here is taken from the program. LOTS are tuples; RIGHT, EIGHTS, WORDS are reckoned once.
"""

import functools
import itertools
import random
import unittest

EIGHT_EXAMPLE = (0, 7, 9, 10, 11, 15, 17, 22)
LAMPS = tuple(range(24))
POWERS = (1, 2, 3)


def product_of(one, other):
    """The product of two SIGNS: 1, 2, 3 are the powers 0, 1, 2 of 2, and 2 by 3 is 1."""
    if one == 0 or other == 0:
        return 0
    return POWERS[(POWERS.index(one) + POWERS.index(other)) % 3]


def sum_of(signs):
    """The sum of SIGNS: each bit that oddly many of them have."""
    return sum(bit for bit in (1, 2) if len([sign for sign in signs if sign & bit]) % 2)


def word_by_rule(row):
    """Whether a row of SIGNS is a WORD, by [3]."""
    a, b, c, d, e, f = row
    return (d == sum_of((a, b, c))
            and e == sum_of((product_of(3, a), product_of(2, b), c))
            and f == sum_of((product_of(2, a), product_of(3, b), c)))


ROWS = tuple(itertools.product(range(4), repeat=6))
WORDS = tuple(row for row in ROWS if word_by_rule(row))


def right_by_rule(lot):
    """Whether a LOT is right, by [3]."""
    columns = [[lamp % 4 for lamp in lot if lamp // 4 == column] for column in range(6)]
    tops = [lamp for lamp in lot if lamp % 4 == 0]
    parities = [len(column) % 2 for column in columns] + [len(tops) % 2]
    if parities not in ([0] * 7, [1] * 7):
        return False
    return word_by_rule(tuple(sum_of(column) for column in columns))


def bits(lot):
    """A LOT as a number: 2 ** n for each LAMP n."""
    return sum(1 << lamp for lamp in lot)


def lot_from(number):
    """The LOT of such a number."""
    return tuple(lamp for lamp in LAMPS if number >> lamp & 1)


def lots_of_parity(word, parity):
    """All LOTS whose columns have the signs of word, and this parity, by going through all."""
    ways = []
    for column, sign in enumerate(word):
        ways.append([lines for size in range(5) for lines in itertools.combinations(range(4), size)
                     if sum_of(lines) == sign and size % 2 == parity])
    found = []
    for lines in itertools.product(*ways):
        found.append(tuple(4 * column + line for column, own in enumerate(lines) for line in own))
    return found


def reckon_right():
    """All right LOTS."""
    found = []
    for word in WORDS:
        for parity in (0, 1):
            found += [lot for lot in lots_of_parity(word, parity) if right_by_rule(lot)]
    return tuple(sorted(found))


RIGHT = reckon_right()
RIGHT_SET = frozenset(RIGHT)
RIGHT_BITS = frozenset(bits(lot) for lot in RIGHT)
EIGHTS = tuple(lot for lot in RIGHT if len(lot) == 8)
EIGHT_BITS = tuple(bits(eight) for eight in EIGHTS)
SMALL_LOTS = tuple(tuple(itertools.combinations(LAMPS, size)) for size in range(5))
SMALL_BITS = tuple(tuple((bits(lot), lot) for lot in lots) for lots in SMALL_LOTS)


def sum_lots(*lots):
    """The sum of LOTS."""
    return tuple(lamp for lamp in LAMPS if len([lot for lot in lots if lamp in lot]) % 2)


@functools.lru_cache(maxsize=None)
def mendings_of(lot):
    """The MENDINGS of a LOT, ascending, by trying all LOTS of few LAMPS."""
    own = bits(lot)
    for smalls in SMALL_BITS:
        found = [small for number, small in smalls if own ^ number in RIGHT_BITS]
        if found:
            return tuple(found)
    raise AssertionError(f"{lot} is not mended")


def counts_of(lot):
    """The COUNTS of a LOT, by going through all EIGHTS."""
    sizes = [len(set(eight) & set(lot)) for eight in EIGHTS]
    return tuple(sizes.count(size) for size in range(9))


def some_lots(seed, many):
    """Edges, LOTS of each size, then LOTS of any kind: the same ones for the same seed."""
    source = random.Random(seed)
    lots = [(), LAMPS, (0,), (23,), (0, 1, 2, 3), (0, 1, 2, 8), (1, 2, 4, 8, 16), EIGHT_EXAMPLE]
    for size in range(25):
        lots.append(tuple(sorted(source.sample(LAMPS, size))))
    while len(lots) < many:
        lots.append(lot_from(source.getrandbits(24)))
    return lots


def deep_lists(thing):
    """The same with a list for each tuple, at any depth."""
    if isinstance(thing, (tuple, list)):
        return [deep_lists(own) for own in thing]
    return thing


def nested(thing, depth):
    """thing within so many tuples."""
    for _ in range(depth):
        thing = (thing,)
    return thing


STRANGE = (None, True, False, 0, 1, -1, 24, 10 ** 40, -10 ** 40, "", "0", "word", (), [], ((),), [()], ([],), (3, 3),
           (None,), (True,), ("",), ("012345",), (0, "a"), ("a", 0), (0, None), nested((), 11), nested(0, 12),
           [[[[[[[[[[[0]]]]]]]]]]], (0, (1, (2, (3, (4, (5,)))))), (True, False), (0, 1, 2, 3, 4, 5, 6, True),
           tuple("abcdefgh"), (None,) * 3, (None,) * 6, (None,) * 8, ("x",) * 6, ((),) * 6, ([],) * 6, ((0,),) * 6)


def spoiled(good):
    """Many things that are nearly good: each part taken out, doubled, exchanged for another kind."""
    found = [list(good), deep_lists(good), (good,), [good], good + (0,), good + (None,), good + good, good[::-1],
             good[1::-1] + good[2:], good[:-2] + good[:-3:-1], (0, 0) + good, good + (23, 23)]
    for place, own in enumerate(good):
        ahead, behind = good[:place], good[place + 1:]
        found.append(ahead + behind)
        found += [ahead + (own, own) + behind, ahead + (own, own, own) + behind]
        others = [None, True, False, "", "1", str(own), (), [], (own,), [own], -1, 24, 10 ** 40, 0, 1, 2, 3, 4, 5, 6]
        if isinstance(own, tuple):
            others += spoiled(own)
        found += [ahead + (other,) + behind for other in others]
    return found


def same(one, other):
    """Whether two values are equal, and of the same kinds at any depth."""
    return repr(one) == repr(other)


class Case(unittest.TestCase):
    """A test case that compares kinds, too, and looks at the values that errors keep."""

    def assert_same(self, got, expected, note=None):
        """got is expected, of the same kinds at any depth."""
        self.assertTrue(same(got, expected), f"{note}: got {got!r}, not {expected!r}")

    def assert_raises(self, error, values, function, *arguments, **named):
        """The call raises just this class of error, and it keeps these values."""
        with self.assertRaises(error) as held:
            function(*arguments, **named)
        self.assertIs(type(held.exception), error)
        self.assert_same(vars(held.exception), values)

    def assert_things(self, function, ahead, expected, things):
        """function(*ahead, thing) is True or False, just as expected(thing), for all things."""
        for thing in list(things) + list(STRANGE):
            before = repr(thing)
            self.assertIs(function(*ahead, thing), expected(thing), (ahead, thing))
            self.assertIs(function(*ahead, thing=thing), expected(thing), (ahead, thing))
            self.assertEqual(repr(thing), before)


def is_plain_number(thing):
    """Whether thing is a number, and no truth."""
    return type(thing) is int


def is_plain_lot(thing):
    """Whether thing is a LOT, just as [3] says."""
    if type(thing) is not tuple or not all(is_plain_number(lamp) for lamp in thing):
        return False
    return all(lamp in LAMPS for lamp in thing) and list(thing) == sorted(set(thing))


def is_plain_right(thing):
    """Whether thing is a right LOT."""
    return is_plain_lot(thing) and thing in RIGHT_SET
