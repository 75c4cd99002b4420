"""What several files need: numbers, LAMPS and LOTS, and LOTS as masks.

A mask is an integer with a bit for each LAMP of a LOT, the greatest one for LAMP 0: so each
hexadecimal digit is a column, and LOTS of one size stand in the order of their masks, reversed.
"""

from eightlots.errors import NoLamp, NoNumber

MANY_LAMPS = 24
ALL_LAMPS = 0xffffff


def is_number(thing):
    """Whether thing is a number: an int, but neither True nor False."""
    return isinstance(thing, int) and not isinstance(thing, bool)


def is_number_below(thing, many):
    """Whether thing is a number from 0 below many."""
    return is_number(thing) and 0 <= thing < many


def is_lot(thing):
    """Whether thing is a LOT: a tuple of LAMPS, ascending."""
    if not isinstance(thing, tuple):
        return False
    if not all([is_number_below(lamp, MANY_LAMPS) for lamp in thing]):
        return False
    return all([thing[k - 1] < thing[k] for k in range(1, len(thing))])


def need_lamp(lamp):
    """Raise NoLamp if lamp is none."""
    if not is_number_below(lamp, MANY_LAMPS):
        raise NoLamp(lamp)


def need_number(number, many):
    """Raise NoNumber if number is none from 0 below many."""
    if not is_number_below(number, many):
        raise NoNumber(number)


def mask_of(lot):
    """The mask of a LOT."""
    mask = 0
    for lamp in lot:
        mask |= 1 << (MANY_LAMPS - 1 - lamp)
    return mask


def lot_of(mask):
    """The LOT of a mask."""
    return tuple([lamp for lamp in range(MANY_LAMPS) if mask >> (MANY_LAMPS - 1 - lamp) & 1])


def size_of(mask):
    """How many LAMPS the LOT of a mask has."""
    return f"{mask:b}".count("1")


def top_bit(mask):
    """The bit of the least LAMP of a mask that is not 0."""
    return 1 << (mask.bit_length() - 1)
