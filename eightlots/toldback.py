"""Told back: right LOTS of which some LAMPS are not heard [20]."""

from eightlots.errors import NoPaper, NoWay, Unfit
from eightlots.lots import is_lot, lot_of, mask_of, need_lamp, settled
from eightlots.rightlots import right_masks


def is_heard(thing):
    """Whether thing is a HEARD."""
    if not isinstance(thing, tuple) or len(thing) != 2:
        return False
    lot, unheard = thing
    return is_lot(lot) and is_lot(unheard) and mask_of(lot) & mask_of(unheard) == 0


def heard_of(lot, unheard):
    """The HEARD if just the LAMPS of lot burn, and those of unheard are not heard."""
    return tuple([lamp for lamp in lot if lamp not in unheard]), tuple(unheard)


def fitting_masks(heard):
    """The list of the masks of the right LOTS that fit heard."""
    lot, unheard = heard
    wanted, gaps = mask_of(lot), mask_of(unheard)
    return [mask for mask in right_masks() if mask & ~gaps == wanted]


def fitting(heard):
    """The list, ascending, of the right LOTS that fit heard."""
    return sorted([lot_of(mask) for mask in fitting_masks(heard)])


def sure_lamps(heard):
    """The set of the unheard LAMPS that are in all LOTS that fit, and of those that are in none."""
    masks = fitting_masks(heard)
    if not masks:
        raise NoWay()
    gaps = mask_of(heard[1])
    in_all = in_none = gaps
    for mask in masks:
        in_all &= mask
        in_none &= ~mask
    return lot_of(in_all), lot_of(in_none)


def next_lamp(heard):
    """The least unheard LAMP that is not sure; None without one."""
    in_all, in_none = sure_lamps(heard)
    for lamp in heard[1]:
        if lamp not in in_all and lamp not in in_none:
            return lamp
    return None


def told_on(heard, lamp, burns):
    """The HEARD behind heard if it is told whether lamp burns."""
    lot, unheard = settled(heard)
    need_lamp(lamp)
    if lamp not in unheard:
        raise Unfit()
    left = tuple([own for own in unheard if own != lamp])
    return (tuple(sorted(lot + (lamp,))) if burns else lot), left


def right_within(unheard):
    """A right LOT, not (), all LAMPS of which are in unheard."""
    gaps = mask_of(unheard)
    for mask in right_masks():
        if mask != 0 and mask & ~gaps == 0:
            return lot_of(mask)
    raise NoPaper()
