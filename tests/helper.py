"""The tests' own reckoning, by the words of the document alone, and what all tests share.

Nothing here is taken from the program. LOTS are tuples; RIGHT, EIGHTS, WORDS are reckoned once.
"""

import functools
import itertools
import random
import unittest

EIGHT_EXAMPLE = (0, 7, 9, 10, 11, 15, 17, 22)
LAMPS = tuple(range(24))
POWERS = (1, 2, 3)
NOUGHT = (0,) * 24
PAIR, EIGHT, ODD = (4, -4) + (0,) * 22, (2,) * 8 + (0,) * 16, (-3,) + (1,) * 23
# What is no row of 24 numbers, and rows that are no LONGS.
NO_ROWS = (None, 3, True, "row", (), (0,), NOUGHT[1:], NOUGHT + (0,), (None,) + NOUGHT[1:], (False,) + NOUGHT[1:],
           ("0",) + NOUGHT[1:], ((0,),) + NOUGHT[1:], [NOUGHT], NOUGHT[1:] + (True,), "0" * 24)
BROKEN = ((1,) * 24, (2,) * 4 + (0,) * 20, (2, 1) + (0,) * 22, (4,) + (0,) * 23, (1,) * 23 + (0,), (2,) + (0,) * 23)


def product_of(one, other):
    """The product of two SIGNS: 1, 2, 3 are the powers 0, 1, 2 of 2, and 2 by 3 is 1."""
    if one == 0 or other == 0:
        return 0
    return POWERS[(POWERS.index(one) + POWERS.index(other)) % 3]


def sum_of(signs):
    """The sum of SIGNS: each bit that oddly many of them have."""
    return sum(bit for bit in (1, 2) if len([sign for sign in signs if sign & bit]) % 2)


def word_by_rule(row):
    """Whether a row of SIGNS is a WORD, by [3]."""
    a, b, c, d, e, f = row
    return (d == sum_of((a, b, c))
            and e == sum_of((product_of(3, a), product_of(2, b), c))
            and f == sum_of((product_of(2, a), product_of(3, b), c)))


ROWS = tuple(itertools.product(range(4), repeat=6))
WORDS = tuple(row for row in ROWS if word_by_rule(row))


def right_by_rule(lot):
    """Whether a LOT is right, by [3]."""
    columns = [[lamp % 4 for lamp in lot if lamp // 4 == column] for column in range(6)]
    tops = [lamp for lamp in lot if lamp % 4 == 0]
    parities = [len(column) % 2 for column in columns] + [len(tops) % 2]
    if parities not in ([0] * 7, [1] * 7):
        return False
    return word_by_rule(tuple(sum_of(column) for column in columns))


def bits(lot):
    """A LOT as a number: 2 ** n for each LAMP n."""
    return sum(1 << lamp for lamp in lot)


def lot_from(number):
    """The LOT of such a number."""
    return tuple(lamp for lamp in LAMPS if number >> lamp & 1)


def lots_of_parity(word, parity):
    """All LOTS whose columns have the signs of word, and this parity, by going through all."""
    ways = []
    for column, sign in enumerate(word):
        ways.append([lines for size in range(5) for lines in itertools.combinations(range(4), size)
                     if sum_of(lines) == sign and size % 2 == parity])
    found = []
    for lines in itertools.product(*ways):
        found.append(tuple(4 * column + line for column, own in enumerate(lines) for line in own))
    return found


def reckon_right():
    """All right LOTS."""
    found = []
    for word in WORDS:
        for parity in (0, 1):
            found += [lot for lot in lots_of_parity(word, parity) if right_by_rule(lot)]
    return tuple(sorted(found))


RIGHT = reckon_right()
RIGHT_SET = frozenset(RIGHT)
RIGHT_BITS = frozenset(bits(lot) for lot in RIGHT)
EIGHTS = tuple(lot for lot in RIGHT if len(lot) == 8)
EIGHT_BITS = tuple(bits(eight) for eight in EIGHTS)
SMALL_LOTS = tuple(tuple(itertools.combinations(LAMPS, size)) for size in range(5))
SMALL_BITS = tuple(tuple((bits(lot), lot) for lot in lots) for lots in SMALL_LOTS)


def sum_lots(*lots):
    """The sum of LOTS."""
    return tuple(lamp for lamp in LAMPS if len([lot for lot in lots if lamp in lot]) % 2)


@functools.lru_cache(maxsize=None)
def mendings_of(lot):
    """The MENDINGS of a LOT, ascending, by trying all LOTS of few LAMPS."""
    own = bits(lot)
    for smalls in SMALL_BITS:
        found = [small for number, small in smalls if own ^ number in RIGHT_BITS]
        if found:
            return tuple(found)
    raise AssertionError(f"{lot} is not mended")


def counts_of(lot):
    """The COUNTS of a LOT, by going through all EIGHTS."""
    sizes = [len(set(eight) & set(lot)) for eight in EIGHTS]
    return tuple(sizes.count(size) for size in range(9))


def some_lots(seed, many):
    """Edges, LOTS of each size, then LOTS of any kind: the same ones for the same seed."""
    source = random.Random(seed)
    lots = [(), LAMPS, (0,), (23,), (0, 1, 2, 3), (0, 1, 2, 8), (1, 2, 4, 8, 16), EIGHT_EXAMPLE]
    for size in range(25):
        lots.append(tuple(sorted(source.sample(LAMPS, size))))
    while len(lots) < many:
        lots.append(lot_from(source.getrandbits(24)))
    return lots


def kind_by_rule(lot):
    """The KIND of a LOT."""
    return (len(lot), counts_of(lot))


@functools.lru_cache(maxsize=None)
def lots_of_all_kinds():
    """One LOT of each KIND, found LAMP by LAMP from ()."""
    found = {}
    latest = [()]
    while latest:
        wider = {}
        for lot in latest:
            found[kind_by_rule(lot)] = lot
            for lamp in LAMPS:
                if lamp not in lot:
                    more = tuple(sorted(lot + (lamp,)))
                    wider.setdefault(kind_by_rule(more), more)
        latest = list(wider.values())
    return tuple(found.values())


EIGHT_BITS_SET = frozenset(EIGHT_BITS)
LIFT = tuple(lamp ^ 1 if lamp < 16 else lamp for lamp in LAMPS)
SPIN = tuple(lamp - lamp % 4 + (0, 2, 3, 1)[lamp % 4] for lamp in LAMPS)
SWAP = (1, 0) + LAMPS[2:]
# Two keeping SHUFFLES that the document shows, in [12] and in [14].
TURNED = (1, 0, 2, 3, 4, 5, 7, 6, 8, 9, 11, 10, 13, 12, 14, 15, 22, 23, 21, 20, 19, 18, 16, 17)
MIXED = (6, 18, 5, 22, 7, 14, 0, 10, 12, 19, 20, 15, 8, 11, 16, 23, 2, 21, 1, 17, 4, 9, 3, 13)


def keeps_by_rule(shuffle):
    """Whether a SHUFFLE leads each EIGHT to an EIGHT."""
    goals = [1 << goal for goal in shuffle]
    return all(sum(goals[lamp] for lamp in eight) in EIGHT_BITS_SET for eight in EIGHTS)


def done_behind(shuffle, other):
    """The SHUFFLE that does first other, then shuffle."""
    return tuple(shuffle[other[lamp]] for lamp in LAMPS)


def led_by(shuffle, lot):
    """The LOT to which a SHUFFLE leads a LOT."""
    return tuple(sorted(shuffle[lamp] for lamp in lot))


def some_keeping(seed, many):
    """Keeping SHUFFLES of all kinds: known ones, behind one another in many ways."""
    source = random.Random(seed)
    found = [LAMPS, LIFT, SPIN, TURNED, MIXED]
    now = MIXED
    while len(found) < many:
        for _ in range(12):
            now = done_behind(source.choice((LIFT, SPIN, TURNED, MIXED)), now)
        found.append(now)
    return found[:many]


def some_shuffles(seed, many):
    """SHUFFLES, keeping ones, ones that are nearly so, and any others."""
    source = random.Random(seed)
    found = [SWAP, LAMPS[::-1], LAMPS[1:] + (0,)] + some_keeping(seed, many // 3 + 5)
    for own in list(found)[3:]:
        lamps = list(own)
        one, other = source.sample(LAMPS, 2)
        lamps[one], lamps[other] = lamps[other], lamps[one]
        found.append(tuple(lamps))
    while len(found) < many:
        found.append(tuple(source.sample(LAMPS, 24)))
    return found


@functools.lru_cache(maxsize=None)
def eights_by_five():
    """A dict: for each five LAMPS, ascending, the bits of the EIGHT that has them."""
    return {five: bits(eight) for eight in EIGHTS for five in itertools.combinations(eight, 5)}


def narrowed(places, goals, lamp):
    """What is left of places, for each LAMP the bits of its goals, by the EIGHTS with lamp and four others."""
    places = list(places)
    # Eight of them do: what is left in the end is asked as a whole.
    others = [own for own in goals if own != lamp][:8]
    for four in itertools.combinations(others, 4):
        five = four + (lamp,)
        near = eights_by_five()[tuple(sorted(five))]
        far = eights_by_five()[tuple(sorted(goals[own] for own in five))]
        for own in LAMPS:
            places[own] &= far if near >> own & 1 else ~far
    return places


def keeping_with(ties, goals=None, places=None):
    """All keeping SHUFFLES that carry ties on, ascending, by going through all LAMPS and all their goals."""
    if goals is None:
        goals, places = {}, [(1 << 24) - 1] * 24
        for lamp, goal in ties:
            goals[lamp] = goal
            places = [own & ~(1 << goal) for own in places]
            places[lamp] = 1 << goal
            places = narrowed(places, goals, lamp)
        if any(places[lamp] != 1 << goal for lamp, goal in ties):
            return
    if all(own and own & (own - 1) == 0 for own in places):
        shuffle = tuple(own.bit_length() - 1 for own in places)
        if len(set(shuffle)) == 24 and keeps_by_rule(shuffle):
            yield shuffle
        return
    left = [lamp for lamp in LAMPS if lamp not in goals]
    if not left or 0 in places:
        return
    lamp = left[0]
    for goal in lot_from(places[lamp]):
        wider = dict(goals)
        wider[lamp] = goal
        fewer = [own & ~(1 << goal) for own in places]
        fewer[lamp] = 1 << goal
        fewer = narrowed(fewer, wider, lamp)
        if all(fewer[own] == 1 << wider[own] for own in wider):
            yield from keeping_with(ties, wider, fewer)


def deep_lists(thing):
    """The same with a list for each tuple, at any depth."""
    if isinstance(thing, (tuple, list)):
        return [deep_lists(own) for own in thing]
    return thing


def nested(thing, depth):
    """thing within so many tuples."""
    for _ in range(depth):
        thing = (thing,)
    return thing


STRANGE = (None, True, False, 0, 1, -1, 24, 10 ** 40, -10 ** 40, "", "0", "word", (), [], ((),), [()], ([],), (3, 3),
           (None,), (True,), ("",), ("012345",), (0, "a"), ("a", 0), (0, None), nested((), 11), nested(0, 12),
           [[[[[[[[[[[0]]]]]]]]]]], (0, (1, (2, (3, (4, (5,)))))), (True, False), (0, 1, 2, 3, 4, 5, 6, True),
           tuple("abcdefgh"), (None,) * 3, (None,) * 6, (None,) * 8, ("x",) * 6, ((),) * 6, ([],) * 6, ((0,),) * 6)


def spoiled(good):
    """Many things that are nearly good: each part taken out, doubled, exchanged for another kind."""
    found = [list(good), deep_lists(good), (good,), [good], good + (0,), good + (None,), good + good, good[::-1],
             good[1::-1] + good[2:], good[:-2] + good[:-3:-1], (0, 0) + good, good + (23, 23)]
    for place, own in enumerate(good):
        ahead, behind = good[:place], good[place + 1:]
        found.append(ahead + behind)
        found += [ahead + (own, own) + behind, ahead + (own, own, own) + behind]
        others = [None, True, False, "", "1", str(own), (), [], (own,), [own], -1, 24, 10 ** 40, 0, 1, 2, 3, 4, 5, 6]
        if isinstance(own, tuple):
            others += spoiled(own)
        found += [ahead + (other,) + behind for other in others]
    return found


def same(one, other):
    """Whether two values are equal, and of the same kinds at any depth."""
    return repr(one) == repr(other)


class Case(unittest.TestCase):
    """A test case that compares kinds, too, and looks at the values that errors keep."""

    def assert_same(self, got, expected, note=None):
        """got is expected, of the same kinds at any depth."""
        self.assertTrue(same(got, expected), f"{note}: got {got!r}, not {expected!r}")

    def assert_raises(self, error, values, function, *arguments, **named):
        """The call raises just this class of error, and it keeps these values."""
        with self.assertRaises(error) as held:
            function(*arguments, **named)
        self.assertIs(type(held.exception), error)
        self.assert_same(vars(held.exception), values)

    def assert_things(self, function, ahead, expected, things):
        """function(*ahead, thing) is True or False, just as expected(thing), for all things."""
        for thing in list(things) + list(STRANGE):
            before = repr(thing)
            self.assertIs(function(*ahead, thing), expected(thing), (ahead, thing))
            self.assertIs(function(*ahead, thing=thing), expected(thing), (ahead, thing))
            self.assertEqual(repr(thing), before)


def is_plain_number(thing):
    """Whether thing is a number, and no truth."""
    return type(thing) is int


def is_plain_lot(thing):
    """Whether thing is a LOT, just as [3] says."""
    if type(thing) is not tuple or not all(is_plain_number(lamp) for lamp in thing):
        return False
    return all(lamp in LAMPS for lamp in thing) and list(thing) == sorted(set(thing))


def is_plain_right(thing):
    """Whether thing is a right LOT."""
    return is_plain_lot(thing) and thing in RIGHT_SET


def odd_lot_of(row):
    """The odd LOT of a row, all even or all odd."""
    low = row[0] % 2
    return tuple(lamp for lamp in LAMPS if (row[lamp] - low) // 2 % 2 == 1)


def broken_by_rule(row):
    """What a row breaks, None if it is a LONG, by [16]."""
    for place, number in enumerate(row):
        if number % 2 != row[0] % 2:
            return ("mixed", place)
    if odd_lot_of(row) not in RIGHT_SET:
        return ("lot", odd_lot_of(row))
    rest = (sum(row) - 4 * (row[0] % 2)) % 8
    return ("sum", rest) if rest else None


def is_row(thing):
    """Whether thing is a tuple of 24 numbers."""
    return type(thing) is tuple and len(thing) == 24 and all(is_plain_number(own) for own in thing)


def is_long_by_rule(thing):
    """Whether thing is a LONG, by [3]."""
    return is_row(thing) and broken_by_rule(thing) is None


def length_of(row):
    """The length of a LONG."""
    return sum(own * own for own in row) // 8


def turned(row, lot):
    """row with the other sign at each LAMP of lot."""
    return tuple(-row[lamp] if lamp in lot else row[lamp] for lamp in LAMPS)


def some_longs(seed, many):
    """LONGS of all kinds, short ones ahead, with numbers to 99 by size."""
    source = random.Random(seed)
    found = [NOUGHT, PAIR, EIGHT, ODD, (8,) + NOUGHT[1:], (2,) * 24, (5,) + (1,) * 23, (-99,) + (97,) * 23]
    while len(found) < many:
        low = source.choice((0, 1))
        lot = source.choice(RIGHT)
        row = [low + 2 * (lamp in lot) + 4 * source.randrange(-24, 24) for lamp in LAMPS]
        place = source.randrange(24)
        if (sum(row) - 4 * low) % 8:
            row[place] += 4
        found.append(tuple(row))
    return [own for own in found if is_long_by_rule(own)]


def product_by_rule(one, other):
    """The product of two LONGS."""
    return sum(own * far for own, far in zip(one, other)) // 8


def added(*rows):
    """The sum of rows, place by place."""
    return tuple(sum(own) for own in zip(*rows))


def times(many, row):
    """row, each number so many times."""
    return tuple(many * own for own in row)


@functools.lru_cache(maxsize=None)
def all_short():
    """All LONGS of length 4, by their shapes."""
    found = []
    for one, other in itertools.combinations(LAMPS, 2):
        for far, near in itertools.product((-4, 4), repeat=2):
            found.append(tuple(far if lamp == one else near if lamp == other else 0 for lamp in LAMPS))
    signs = [own for own in itertools.product((-2, 2), repeat=8) if own.count(-2) % 2 == 0]
    for eight in EIGHTS:
        for own in signs:
            row = [0] * 24
            for lamp, number in zip(eight, own):
                row[lamp] = number
            found.append(tuple(row))
    for lot in RIGHT:
        row = tuple(-1 if lamp in lot else 1 for lamp in LAMPS)
        found += [row[:lamp] + (-3 * row[lamp],) + row[lamp + 1:] for lamp in LAMPS]
    return tuple(found)


def some_short(seed, many):
    """LONGS of length 4, as many of each shape."""
    source = random.Random(seed)
    rows = all_short()
    pairs, eights, odd = rows[:1104], rows[1104:1104 + 128 * 759], rows[1104 + 128 * 759:]
    found = [PAIR, EIGHT, ODD]
    while len(found) < many:
        found.append(source.choice((pairs, eights, odd)[len(found) % 3]))
    return found


def some_of_length(length, seed, many):
    """LONGS of length 6 or 8: sums of two short ones."""
    source = random.Random(seed)
    rows = some_short(seed, 90)
    found = []
    while len(found) < many:
        row = added(*source.sample(rows, 2))
        if length_of(row) == length:
            found.append(row)
    return found
