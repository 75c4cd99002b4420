"""Eights: the right LOTS of eight LAMPS [7]."""

from eightlots.errors import NoPaper, Unfit
from eightlots.lots import is_lot, lot_of, mask_of, need_number, size_of
from eightlots.rightlots import few_mended, is_right, right_masks

SIZE = 8
MANY_EIGHTS = 759


def eight_masks():
    """The list of the masks of all EIGHTS, in the order of these."""
    return sorted([mask for mask in right_masks() if size_of(mask) == SIZE], reverse=True)


def all_eights():
    """The list, ascending, of all EIGHTS."""
    return [lot_of(mask) for mask in eight_masks()]


def is_eight(thing):
    """Whether thing is an EIGHT."""
    return is_lot(thing) and len(thing) == SIZE and is_right(thing)


def eight_number(eight):
    """The number of eight in all_eights()."""
    return eight_masks().index(mask_of(eight))


def eight_at(number):
    """The EIGHT with this number."""
    need_number(number, MANY_EIGHTS)
    return lot_of(eight_masks()[number])


def eight_of(lot):
    """The EIGHT that has these five LAMPS."""
    if len(lot) != 5:
        raise Unfit()
    mask = mask_of(lot)
    return lot_of(mask ^ few_mended(mask))


def masks_with(lot, other):
    """The masks, in order, of the EIGHTS that have all LAMPS of lot and none of other."""
    inside = mask_of(lot)
    asked = inside | mask_of(other)
    if mask_of(other) & inside:
        return []
    return [mask for mask in eight_masks() if mask & asked == inside]


def eights_with(lot, other):
    """The list, ascending, of the EIGHTS that have all LAMPS of lot and none of other."""
    return [lot_of(mask) for mask in masks_with(lot, other)]


def how_many_with(lot, other):
    """How many EIGHTS have all LAMPS of lot and none of other."""
    return len(masks_with(lot, other))


def shared_lamps(one, near):
    """The LOT of the LAMPS that are in both EIGHTS."""
    return lot_of(mask_of(one) & mask_of(near))


def counts_by(eights, mask):
    """The COUNTS of the LOT of a mask, by the masks of all EIGHTS."""
    found = [0] * (SIZE + 1)
    for eight in eights:
        found[size_of(eight & mask)] += 1
    return tuple(found)


def counts(lot):
    """The COUNTS of lot."""
    return counts_by(eight_masks(), mask_of(lot))


def fullest(lot):
    """The list, ascending, of the EIGHTS that have the most LAMPS of lot."""
    mask = mask_of(lot)
    eights = eight_masks()
    most = max([size_of(eight & mask) for eight in eights])
    return [lot_of(eight) for eight in eights if size_of(eight & mask) == most]


def odd_masks(lot):
    """The masks, in order, of the EIGHTS that have oddly many LAMPS of lot."""
    mask = mask_of(lot)
    return [eight for eight in eight_masks() if size_of(eight & mask) % 2 == 1]


def is_met_evenly(lot):
    """Whether each EIGHT has evenly many LAMPS of lot."""
    return not odd_masks(lot)


def odd_eight(lot):
    """An EIGHT that has oddly many LAMPS of lot."""
    odd = odd_masks(lot)
    if not odd:
        raise NoPaper()
    return lot_of(odd[0])


def is_odd_eight(lot, thing):
    """Whether thing is an EIGHT that has oddly many LAMPS of lot."""
    return is_eight(thing) and len(shared_lamps(thing, lot)) % 2 == 1
