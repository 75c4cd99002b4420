"""Mending: the least changes that make a LOT right [8]."""

from itertools import combinations

from eightlots.errors import NoWay
from eightlots.lots import (ALL_LAMPS, MANY_LAMPS, is_lot, lot_of, mask_of, need_lamp, need_number,
                            size_of, top_bit)
from eightlots.rightlots import BASES, few_mended, is_right, rest_mask

HARD_SIZE = 4


def mending_masks(mask):
    """The list of the masks of all MENDINGS of a mask, in the order of these."""
    few = few_mended(mask)
    if few is not None:
        return [few]
    found = []
    left = ALL_LAMPS
    while left:
        # A hard LOT has just one MENDING with each LAMP: the three others mend it with that one turned.
        four = top_bit(left) | few_mended(mask ^ top_bit(left))
        found.append(four)
        left ^= four
    return found


def how_far(lot):
    """How many LAMPS the MENDINGS of lot have."""
    few = few_mended(mask_of(lot))
    return HARD_SIZE if few is None else size_of(few)


def is_hard(lot):
    """Whether lot has six MENDINGS."""
    return few_mended(mask_of(lot)) is None


def mendings(lot):
    """The list, ascending, of all MENDINGS of lot."""
    return [lot_of(mask) for mask in mending_masks(mask_of(lot))]


def mending(lot):
    """A MENDING of lot: the least one."""
    return rest_of(lot)


def is_mending(lot, thing):
    """Whether thing is a MENDING of lot."""
    return is_lot(thing) and thing in mendings(lot)


def nearest(lot):
    """The list, ascending, of the sums of lot with each MENDING."""
    mask = mask_of(lot)
    return sorted([lot_of(mask ^ own) for own in mending_masks(mask)])


def mending_with(lot, lamp):
    """The MENDING of lot that has lamp."""
    need_lamp(lamp)
    for own in mendings(lot):
        if lamp in own:
            return own
    raise NoWay()


def mending_fours(lot):
    """The FOURS that the six MENDINGS of lot are."""
    found = mendings(lot)
    if len(found) == 1:
        raise NoWay()
    return tuple(found)


def rest_of(lot):
    """The least MENDING of lot."""
    return mendings(lot)[0]


def same_rest(one, other):
    """Whether the sum of both LOTS is right."""
    return rest_mask(mask_of(one) ^ mask_of(other)) == 0


def rests(many):
    """The list, ascending, of the LOTS of many LAMPS that are the least MENDING of some LOT."""
    need_number(many, HARD_SIZE + 1)
    # Of the six MENDINGS of a hard LOT the one with LAMP 0 is the least.
    lots = list(combinations(range(MANY_LAMPS), many))
    return [lot for lot in lots if many < HARD_SIZE or lot[0] == 0]


def without_bit(rows, bit):
    """The pair of the first of rows that has bit (0 if none has) and all others, made free of it."""
    first = 0
    others = []
    for row in rows:
        if not row & bit:
            others.append(row)
        elif first == 0:
            first = row
        else:
            others.append(row ^ first)
    return first, others


def bits_of(mask):
    """The list of the bits of a mask."""
    return [1 << k for k in range(MANY_LAMPS) if mask >> k & 1]


def filled(lot, gaps):
    """A right LOT that has, of the LAMPS that are not in gaps, just those of lot."""
    wanted = mask_of(lot)
    rows = list(BASES)
    got = 0
    for bit in bits_of(ALL_LAMPS ^ mask_of(gaps)):
        # What is left in rows has none of the bits ahead: so these stay as they are.
        row, rows = without_bit(rows, bit)
        if (got ^ wanted) & bit:
            if row == 0:
                raise NoWay()
            got ^= row
    return lot_of(got)


def is_filled(lot, gaps, thing):
    """Whether thing is a right LOT that fills lot at gaps."""
    if not is_lot(thing) or not is_right(thing):
        return False
    return (mask_of(thing) ^ mask_of(lot)) & ~mask_of(gaps) == 0


def fill_bar(lot, gaps):
    """A right LOT without a LAMP of gaps that shares an odd number of LAMPS with lot."""
    mask = mask_of(lot)
    rows = list(BASES)
    for bit in bits_of(mask_of(gaps)):
        _, rows = without_bit(rows, bit)
    # All right LOTS without a LAMP of gaps are sums of rows: if none of these is odd, none is.
    for row in rows:
        if size_of(row & mask) % 2 == 1:
            return lot_of(row)
    raise NoWay()


def is_fill_bar(lot, gaps, thing):
    """Whether thing is a BAR of this."""
    if not is_lot(thing) or not is_right(thing) or mask_of(thing) & mask_of(gaps):
        return False
    return size_of(mask_of(thing) & mask_of(lot)) % 2 == 1
