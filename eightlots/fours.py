"""Fours: all LAMPS in six LOTS of four [9]."""

from itertools import combinations

from eightlots.errors import Unfit
from eightlots.lots import MANY_LAMPS, is_lot, lot_of, mask_of, need_lamp, need_number, size_of
from eightlots.mending import mendings, rests, same_rest

MANY_LOTS = 6
SIZE = 4


def is_fours(thing):
    """Whether thing are FOURS."""
    if not isinstance(thing, tuple) or len(thing) != MANY_LOTS:
        return False
    if not all([is_lot(lot) and len(lot) == SIZE for lot in thing]) or list(thing) != sorted(thing):
        return False
    if sorted([lamp for lot in thing for lamp in lot]) != list(range(MANY_LAMPS)):
        return False
    # The sum of two of these LOTS has eight LAMPS: so it is an EIGHT if it is right.
    return all([same_rest(thing[0], lot) for lot in thing])


def fours_of(lot):
    """The FOURS of which lot, of four LAMPS, is a LOT."""
    if len(lot) != SIZE:
        raise Unfit()
    return tuple(mendings(lot))


def many_fours():
    """How many FOURS there are."""
    return len(rests(SIZE))


def fours_by_number(number):
    """The FOURS ahead of which just so many others are."""
    # FOURS stand in the order of their least LOTS, those of four LAMPS with LAMP 0.
    least_lots = rests(SIZE)
    need_number(number, len(least_lots))
    return fours_of(least_lots[number])


def number_of_fours(fours):
    """How many FOURS are ahead of fours."""
    return rests(SIZE).index(tuple(fours[0]))


def lot_with(fours, lamp):
    """The LOT of fours that has lamp."""
    need_lamp(lamp)
    return [tuple(lot) for lot in fours if lamp in lot][0]


def in_one(fours, lamp, mate):
    """Whether one of the LOTS of fours has both LAMPS."""
    need_lamp(lamp)
    need_lamp(mate)
    return mate in lot_with(fours, lamp)


def eights_of_fours(fours):
    """The set of the EIGHTS that are sums of two LOTS of fours."""
    masks = [mask_of(lot) for lot in fours]
    return tuple(sorted([lot_of(one | other) for one, other in combinations(masks, 2)]))


def fours_in(eight):
    """The list, ascending, of the FOURS of which two LOTS have eight for their sum."""
    first, *later = eight
    # One of these two LOTS has the least LAMP of eight, and three others of it.
    return sorted([fours_of((first, *others)) for others in combinations(later, 3)])


def shared(fours, lot):
    """The tuple with, for each LOT of fours, how many LAMPS lot has of it."""
    mask = mask_of(lot)
    return tuple([size_of(mask_of(own) & mask) for own in fours])


def shared_table(one, other):
    """The tuple of shared(other, lot) for each lot of one."""
    return tuple([shared(other, lot) for lot in one])


def meeting(one, other):
    """The set of the numbers that stand in shared_table(one, other)."""
    return tuple(sorted(set([many for row in shared_table(one, other) for many in row])))


def refined(one, other):
    """The set of the LOTS, not (), of what a LOT of one and a LOT of other have both."""
    lots = [lot_of(mask_of(own) & mask_of(far)) for own in one for far in other]
    return tuple(sorted([lot for lot in lots if lot]))
