"""Right LOTS [6]."""

from itertools import combinations

from eightlots.board import column_signs, parities
from eightlots.errors import Unfit
from eightlots.lots import lot_of, mask_of, need_number, size_of, top_bit
from eightlots.signs import is_word

MANY_RIGHT = 4096
# The base LOTS as masks, heads ascending. The greatest bit of each is its head, which no other one has.
BASES = (0x811724, 0x41144e, 0x21121d, 0x111178, 0x09063a, 0x050563,
         0x030356, 0x009669, 0x005555, 0x003333, 0x000f0f, 0x0000ff)


def is_right(lot):
    """Whether lot is right."""
    return len(set(parities(lot))) == 1 and is_word(column_signs(lot))


def heads():
    """The set of the heads."""
    return tuple([base_lot[0] for base_lot in base_lots()])


def base_lots():
    """The tuple of the base LOTS, heads ascending."""
    return tuple([lot_of(base) for base in BASES])


def right_at(number):
    """The right LOT with this number."""
    need_number(number, MANY_RIGHT)
    mask = 0
    for k, base in enumerate(BASES):
        if number >> k & 1:
            mask ^= base
    return lot_of(mask)


def right_number(lot):
    """The number of a right LOT."""
    if not is_right(lot):
        raise Unfit()
    mask = mask_of(lot)
    return sum([1 << k for k, base in enumerate(BASES) if mask & top_bit(base)])


def rights_of(many):
    """The list, ascending, of the right LOTS of just so many LAMPS."""
    return sorted([lot_of(mask) for mask in right_masks() if size_of(mask) == many])


def right_masks():
    """The list of the masks of all right LOTS."""
    masks = [0]
    for base in BASES:
        masks = masks + [mask ^ base for mask in masks]
    return masks


def rest_mask(mask):
    """The mask without heads whose sum with mask is right: one of all masks of one rest."""
    for base in BASES:
        if mask & top_bit(base):
            mask ^= base
    return mask


def lamps_by_rest():
    """A dict: for the rest_mask of each LAMP alone its bit."""
    found = {}
    head_bits = 0
    for base in BASES:
        head_bits |= top_bit(base)
        found[base ^ top_bit(base)] = top_bit(base)
    for k in range(head_bits.bit_length()):
        # What has no head is its own rest.
        if not head_bits >> k & 1:
            found[1 << k] = 1 << k
    return found


def few_mended(mask):
    """The mask of at most three LAMPS whose sum with mask is right; None if there is none."""
    rest = rest_mask(mask)
    if rest == 0:
        return 0
    lamps = lamps_by_rest()
    if rest in lamps:
        return lamps[rest]
    for own in lamps:
        if (rest ^ own) in lamps:
            return lamps[own] | lamps[rest ^ own]
    for one, other in combinations(lamps, 2):
        if (rest ^ one ^ other) in lamps:
            return lamps[one] | lamps[other] | lamps[rest ^ one ^ other]
    return None
