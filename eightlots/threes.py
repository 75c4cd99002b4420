"""Threes: all LAMPS in three EIGHTS [10]."""

from itertools import combinations

from eightlots.eights import eight_at, eight_number, eights_with, is_eight
from eightlots.errors import Unfit
from eightlots.fours import eights_of_fours, fours_in, shared_table
from eightlots.lots import ALL_LAMPS, MANY_LAMPS, lot_of, mask_of, need_lamp, need_number, settled

MANY_PARTS = 3
THREES_OF_ONE = 15
MANY_THREES = 3795


def is_three(thing):
    """Whether thing is a THREE."""
    if not isinstance(thing, tuple) or len(thing) != MANY_PARTS:
        return False
    if not all([is_eight(own) for own in thing]) or list(thing) != sorted(thing):
        return False
    return sorted([lamp for own in thing for lamp in own]) == list(range(MANY_LAMPS))


def three_of(one, other):
    """The THREE that has both EIGHTS."""
    first, second = mask_of(one), mask_of(other)
    if first & second:
        raise Unfit()
    return tuple(sorted([lot_of(mask) for mask in (first, second, ALL_LAMPS ^ first ^ second)]))


def beside(eight):
    """The set of the EIGHTS that have none of the LAMPS of eight."""
    return tuple(eights_with((), eight))


def threes_with(eight):
    """The list, ascending, of the THREES that have eight."""
    return sorted(set([three_of(eight, own) for own in beside(eight)]))


def many_threes():
    """How many THREES there are."""
    return MANY_THREES


def three_by_number(number):
    """The THREE ahead of which, ascending, just so many others are."""
    need_number(number, MANY_THREES)
    # LAMP 0 is in the first EIGHT of each THREE: so each EIGHT with LAMP 0, and these stand first of
    # all, is the first one of all THREES that have it.
    return threes_with(eight_at(number // THREES_OF_ONE))[number % THREES_OF_ONE]


def number_of_three(three):
    """How many THREES are ahead of three."""
    first = three[0]
    return THREES_OF_ONE * eight_number(first) + threes_with(first).index(settled(three))


def eight_with(three, lamp):
    """The EIGHT of three that has lamp."""
    need_lamp(lamp)
    return [tuple(own) for own in three if lamp in own][0]


def fours_of_three(three):
    """The list, ascending, of the FOURS of which each EIGHT of three is the sum of two LOTS."""
    first, second, _ = settled(three)
    # Where two of its EIGHTS are such sums the LOTS that are left make the third one.
    return [fours for fours in fours_in(first) if second in eights_of_fours(fours)]


def threes_of_fours(fours):
    """The list, ascending, of the THREES each EIGHT of which is the sum of two LOTS of fours."""
    pairs = list(combinations(list(eights_of_fours(fours)), 2))
    return sorted(set([three_of(one, other) for one, other in pairs if not mask_of(one) & mask_of(other)]))


def three_table(three, far):
    """The tuple with, for each EIGHT of three, how many LAMPS it has of each EIGHT of far."""
    return shared_table(three, far)


def fours_of_both(three, far):
    """The list, ascending, of the FOURS that are of fours_of_three for both THREES."""
    others = fours_of_three(far)
    return [fours for fours in fours_of_three(three) if fours in others]
