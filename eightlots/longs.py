"""Long rows: 24 numbers by the rules of right LOTS [16]."""

from itertools import combinations

from eightlots.eights import MANY_EIGHTS, eight_at, eight_number
from eightlots.errors import NoPaper, NoWay, Unfit
from eightlots.lots import MANY_LAMPS, fit_lot, is_number, is_same, need_number, settled
from eightlots.rightlots import MANY_RIGHT, heads, is_right, right_at

SHORT = 4
# The shapes by the greatest number, by size.
SHAPES = {2: "eight", 3: "odd", 4: "pair"}
# So many ways the signs have: of a "pair", of an "eight", where seven of them tell the last one.
PAIR_SIGNS = 4
EIGHT_SIGNS = 128
MANY_PAIRS = 1104
MANY_SHORT = 196560


def is_row(thing):
    """Whether thing is a tuple of 24 numbers."""
    return isinstance(thing, tuple) and len(thing) == MANY_LAMPS and all([is_number(own) for own in thing])


def odd_lamps(row):
    """The odd LOT of a row that is all even or all odd."""
    # Halved and rounded down an odd number gives the half of what it is without m.
    return tuple([lamp for lamp, number in enumerate(row) if number // 2 % 2 == 1])


def mixed_places(row):
    """The list of the places whose number is odd where that at place 0 is even, or the other way round."""
    return [place for place, number in enumerate(row) if (number - row[0]) % 2 == 1]


def broken_rule(row):
    """What row breaks; None if it is a LONG."""
    mixed = mixed_places(row)
    if mixed:
        return ("mixed", mixed[0])
    lot = odd_lamps(row)
    if not is_right(lot):
        return ("lot", lot)
    rest = (sum(row) - 4 * (row[0] % 2)) % 8
    return ("sum", rest) if rest else None


def is_long(thing):
    """Whether thing is a LONG."""
    return is_row(thing) and broken_rule(thing) is None


def fit_row(value):
    """value, handed in for a row of 24 numbers, made of tuples."""
    row = settled(value)
    if not is_row(row):
        raise Unfit()
    return row


def fit_long(value):
    """value, handed in for a LONG, made of tuples."""
    long = settled(value)
    if not is_long(long):
        raise Unfit()
    return long


def odd_lot(row):
    """The odd LOT of row."""
    row = fit_row(row)
    if mixed_places(row):
        raise Unfit()
    return odd_lamps(row)


def rule_broken(row):
    """What row breaks."""
    broken = broken_rule(fit_row(row))
    if broken is None:
        raise NoPaper()
    return broken


def is_rule_broken(row, thing):
    """Whether thing is what row breaks."""
    broken = broken_rule(fit_row(row))
    return broken is not None and is_same(thing, broken)


def product_of(one, other):
    """The sum of the products, place by place, divided by 8."""
    return sum([number * far for number, far in zip(one, other)]) // 8


def long_length(long):
    """The length of long."""
    long = fit_long(long)
    return product_of(long, long)


def long_product(one, other):
    """The product of two LONGS."""
    return product_of(fit_long(one), fit_long(other))


def long_sum(one, other):
    """The LONG of the sums of both, place by place."""
    one, other = fit_long(one), fit_long(other)
    return tuple([number + far for number, far in zip(one, other)])


def long_contrary(long):
    """The contrary of long."""
    return tuple([-number for number in fit_long(long)])


def turned_at(row, lot):
    """row with the other sign at each LAMP of lot."""
    return tuple([-number if lamp in lot else number for lamp, number in enumerate(row)])


def signs_turned(long, lot):
    """long with the other sign at each LAMP of lot, a right LOT."""
    long, lot = fit_long(long), fit_lot(lot)
    if not is_right(lot):
        raise Unfit()
    return turned_at(long, lot)


def half_long(long):
    """The LONG with half of each number."""
    long = fit_long(long)
    half = tuple([number // 2 for number in long])
    if long[0] % 2 == 1 or not is_long(half):
        raise NoWay()
    return half


def shape_of(long):
    """The shape of long; None if its length is not 4."""
    if long_length(long) != SHORT:
        return None
    return SHAPES[max([abs(number) for number in long])]


def signs_number(row, lamps):
    """How many ways of the signs at these LAMPS stand ahead of that of row, by comparison."""
    found = 0
    for lamp in lamps:
        found = 2 * found + (1 if row[lamp] > 0 else 0)
    return found


def signed(size, lamps, number):
    """The row with this size at these LAMPS, else 0, with the signs that have this number."""
    row = [0] * MANY_LAMPS
    for place, lamp in enumerate(reversed(lamps)):
        row[lamp] = size if number >> place & 1 else -size
    return tuple(row)


def pair_lots():
    """The list, ascending, of all LOTS of two LAMPS."""
    return list(combinations(range(MANY_LAMPS), 2))


def short_number(long):
    """How many LONGS of length 4 stand ahead of long."""
    long = fit_long(long)
    shape = shape_of(long)
    if shape is None:
        raise Unfit()
    lamps = tuple([lamp for lamp, number in enumerate(long) if number != 0])
    if shape == "pair":
        return PAIR_SIGNS * pair_lots().index(lamps) + signs_number(long, lamps)
    if shape == "eight":
        return MANY_PAIRS + EIGHT_SIGNS * eight_number(lamps) + signs_number(long, lamps[:-1])
    # The signs are turned at a right LOT: those at the heads tell it, and are the first to differ.
    lamp = [abs(number) for number in long].index(3)
    ahead = MANY_PAIRS + EIGHT_SIGNS * MANY_EIGHTS
    return ahead + MANY_RIGHT * lamp + signs_number(long, heads())


def eight_short(number):
    """The LONG of this number among those of shape "eight"."""
    eight = eight_at(number // EIGHT_SIGNS)
    long = signed(2, eight, 2 * (number % EIGHT_SIGNS))
    # Evenly many numbers are below 0: so the last one is as it has to be.
    return long if is_long(long) else turned_at(long, eight[-1:])


def odd_short(number):
    """The LONG of this number among those of shape "odd"."""
    lamp, rest = divmod(number, MANY_RIGHT)
    plain = tuple([-3 if own == lamp else 1 for own in range(MANY_LAMPS)])
    wanted = signed(1, heads(), rest)
    # The number of the right LOT at which signs are turned tells its heads, the first one by 1.
    turned = [1 << k for k, head in enumerate(heads()) if plain[head] * wanted[head] < 0]
    return turned_at(plain, right_at(sum(turned)))


def short_at(number):
    """The LONG of length 4 with this number."""
    need_number(number, MANY_SHORT)
    if number < MANY_PAIRS:
        return signed(4, pair_lots()[number // PAIR_SIGNS], number % PAIR_SIGNS)
    number -= MANY_PAIRS
    if number < EIGHT_SIGNS * MANY_EIGHTS:
        return eight_short(number)
    return odd_short(number - EIGHT_SIGNS * MANY_EIGHTS)
