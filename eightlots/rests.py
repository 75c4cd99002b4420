"""Rests by twice: which LONGS are alike, and the shortest ones of each rest [17]."""

from eightlots.errors import NoPaper, NoWay, Unfit
from eightlots.longs import broken_rule, fit_long, fit_row, is_long, product_of
from eightlots.lots import MANY_LAMPS, is_same, lot_of, settled
from eightlots.rightlots import right_masks

# No shortest one is longer; its squares, added up, are eight times as much.
GREATEST = 8
SQUARES = 64
MANY_FRAME = 48
# For each rest modulo 8 the number of the least size that has it.
LEAST = (0, 1, 2, 3, 4, -3, -2, -1)
LINE = 8


def difference(one, other):
    """The row of one less other, place by place."""
    return tuple([number - far for number, far in zip(one, other)])


def parted(one, other):
    """What parts two LONGS; None if they are alike by twice."""
    row = difference(one, other)
    odd = [place for place, number in enumerate(row) if number % 2 == 1]
    if odd:
        return ("half", odd[0])
    return broken_rule(tuple([number // 2 for number in row]))


def alike_by_twice(one, other):
    """Whether both LONGS are alike by twice."""
    return parted(fit_long(one), fit_long(other)) is None


def half_difference(one, other):
    """The LONG that is half of one less other."""
    one, other = fit_long(one), fit_long(other)
    if parted(one, other) is not None:
        raise NoWay()
    return tuple([number // 2 for number in difference(one, other)])


def parting_rule(one, other):
    """What parts both LONGS."""
    parting = parted(fit_long(one), fit_long(other))
    if parting is None:
        raise NoPaper()
    return parting


def is_parting_rule(one, other, thing):
    """Whether thing is what parts both LONGS."""
    parting = parted(fit_long(one), fit_long(other))
    return parting is not None and is_same(thing, parting)


def least_squares(row):
    """A list: for each mask of the LAMPS of row the least squares, added up, with 4 taken away at these."""
    sums = [0]
    for number in row:
        plain, less = LEAST[number % 8] ** 2, LEAST[(number - 4) % 8] ** 2
        sums = [ahead + own for ahead in sums for own in (plain, less)]
    return sums


def near_lots(row):
    """The list of the right LOTS such that row, with 4 taken away at these, may be short modulo 8."""
    first, middle, last = [least_squares(row[start:start + LINE]) for start in range(0, MANY_LAMPS, LINE)]
    # All right LOTS are asked: so each third of the LAMPS is looked up as a whole.
    return [lot_of(mask) for mask in right_masks()
            if first[mask >> 16] + middle[mask >> 8 & 255] + last[mask & 255] <= SQUARES]


def short_rows(row):
    """The list of all rows like row modulo 8 whose squares, added up, are at most those of length 8."""
    near = [LEAST[number % 8] for number in row]
    found = [((), SQUARES - sum([number ** 2 for number in near]))]
    for number in near:
        wider = []
        for ahead, left in found:
            for own in (number, number - 8, number + 8):
                more = own ** 2 - number ** 2
                if more <= left:
                    wider.append((ahead + (own,), left - more))
        found = wider
    return [own for own, _ in found]


def all_shortest(long):
    """The list of the shortest LONGS of the rest of long, ascending."""
    # Less twice a LONG with m and an odd LOT is: modulo 8 less 2 m, and less 4 at the LOT; the sum,
    # modulo 16, less 8 m. No other length is found than the least: longer ones are longer than 8.
    long = fit_long(long)
    found = []
    for m in (0, 1):
        row = [number - 2 * m for number in long]
        total = sum(long) - 8 * m
        for lot in near_lots(row):
            less = [number - 4 if lamp in lot else number for lamp, number in enumerate(row)]
            found += [own for own in short_rows(less) if (sum(own) - total) % 16 == 0]
    return sorted(found)


def shortest(long):
    """A shortest LONG of the rest of long: the least one."""
    return all_shortest(long)[0]


def rest_kind(long):
    """The kind of the rest of long: the length of its shortest LONGS."""
    least = shortest(long)
    return product_of(least, least)


def is_shortest(long, thing):
    """Whether thing is a shortest LONG of the rest of long."""
    # Each LONG of length 8 or less is a shortest one of its rest.
    long = fit_long(long)
    return is_long(thing) and product_of(thing, thing) <= GREATEST and parted(long, thing) is None


def frame_of(long):
    """The FRAME of the shortest LONGS of the rest of long."""
    found = all_shortest(long)
    if len(found) != MANY_FRAME:
        raise NoWay()
    return tuple(found)


def is_frame(thing):
    """Whether thing is a FRAME."""
    # A rest has no more LONGS of length 8 than the ones of a FRAME.
    if not isinstance(thing, tuple) or len(thing) != MANY_FRAME or not is_long(thing[0]):
        return False
    return is_same(thing, tuple(all_shortest(thing[0])))


def fit_frame(value):
    """value, handed in for a FRAME, made of tuples."""
    frame = settled(value)
    if not is_frame(frame):
        raise Unfit()
    return frame


def axes_of(frame):
    """The axes of a FRAME, ascending."""
    # The contrary of a LONG below the LONG of noughts is the one as far from the other end.
    return frame[MANY_FRAME // 2:]


def frame_products(frame, long):
    """The tuple of the products of long with the axes of frame."""
    frame, long = fit_frame(frame), fit_long(long)
    return tuple([product_of(axis, long) for axis in axes_of(frame)])


def long_by_frame(frame, products):
    """The LONG that has these products with the axes of frame."""
    axes, products = axes_of(fit_frame(frame)), fit_row(products)
    # The axes have length 8 and the product 0 with one another: so a LONG is an eighth of this sum.
    sums = [sum([many * axis[lamp] for many, axis in zip(products, axes)]) for lamp in range(MANY_LAMPS)]
    row = tuple([number // 8 for number in sums])
    if any([number % 8 != 0 for number in sums]) or not is_long(row):
        raise NoWay()
    return row
