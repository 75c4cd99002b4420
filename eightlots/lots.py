"""What several files need: numbers, LAMPS, LOTS and MAPS, what is handed in for them, and LOTS as masks.

A mask is an integer with a bit for each LAMP of a LOT, the greatest one for LAMP 0: so each
hexadecimal digit is a column, and LOTS of one size stand in the order of their masks, reversed.
"""

from eightlots.errors import NoLamp, NoNumber, Unfit

MANY_LAMPS = 24
ALL_LAMPS = 0xffffff


def is_number(thing):
    """Whether thing is a number: an int, but neither True nor False."""
    return isinstance(thing, int) and not isinstance(thing, bool)


def is_number_below(thing, many):
    """Whether thing is a number from 0 below many."""
    return is_number(thing) and 0 <= thing < many


def is_lot(thing):
    """Whether thing is a LOT: a tuple of LAMPS, ascending."""
    if not isinstance(thing, tuple):
        return False
    if not all([is_number_below(lamp, MANY_LAMPS) for lamp in thing]):
        return False
    return all([thing[k - 1] < thing[k] for k in range(1, len(thing))])


def are_unlike_lamps(thing, many):
    """Whether thing is a tuple of so many LAMPS, no LAMP twice."""
    if not isinstance(thing, tuple) or len(thing) != many:
        return False
    return all([is_number_below(lamp, MANY_LAMPS) for lamp in thing]) and len(set(thing)) == many


def is_map(thing):
    """Whether thing is a MAP."""
    if not isinstance(thing, tuple):
        return False
    if not all([isinstance(pair, tuple) and len(pair) == 2 for pair in thing]):
        return False
    goals = tuple([pair[1] for pair in thing])
    return is_lot(tuple([pair[0] for pair in thing])) and are_unlike_lamps(goals, len(goals))


def is_same(thing, value):
    """Whether thing is value, at any depth: True and False are no numbers, lists no tuples."""
    if isinstance(value, tuple):
        if not isinstance(thing, tuple) or len(thing) != len(value):
            return False
        return all([is_same(own, part) for own, part in zip(thing, value)])
    return is_number(thing) == is_number(value) and thing == value


def settled(value):
    """value with a tuple for each list in it, at any depth."""
    if isinstance(value, (list, tuple)):
        return tuple([settled(own) for own in value])
    return value


def fit_lot(value):
    """value, handed in for a LOT, made of tuples."""
    lot = settled(value)
    if not is_lot(lot):
        raise Unfit()
    return lot


def fit_map(value):
    """value, handed in for a MAP, made of tuples."""
    ties = settled(value)
    if not is_map(ties):
        raise Unfit()
    return ties


def need_lamp(lamp):
    """Raise NoLamp if lamp is none."""
    if not is_number_below(lamp, MANY_LAMPS):
        raise NoLamp(lamp)


def need_number(number, many):
    """Raise NoNumber if number is none from 0 below many."""
    if not is_number_below(number, many):
        raise NoNumber(number)


def mask_of(lot):
    """The mask of a LOT."""
    mask = 0
    for lamp in lot:
        mask |= 1 << (MANY_LAMPS - 1 - lamp)
    return mask


def lot_of(mask):
    """The LOT of a mask."""
    return tuple([lamp for lamp in range(MANY_LAMPS) if mask >> (MANY_LAMPS - 1 - lamp) & 1])


def size_of(mask):
    """How many LAMPS the LOT of a mask has."""
    return f"{mask:b}".count("1")


def top_bit(mask):
    """The bit of the least LAMP of a mask that is not 0."""
    return 1 << (mask.bit_length() - 1)
