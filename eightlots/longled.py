"""Longs led: MOVES that keep lengths and products of LONGS [18]."""

from eightlots.errors import NoWay, Unfit
from eightlots.fives import carried_on
from eightlots.fours import MANY_LOTS, fours_of, is_fours
from eightlots.longs import SHORT, fit_long, is_long, product_of, shape_of, turned_at
from eightlots.lots import MANY_LAMPS, is_lot, is_number_below, settled
from eightlots.mending import filled
from eightlots.rests import difference
from eightlots.rightlots import is_right
from eightlots.shuffles import is_keeping, is_shuffle, shuffle_back

# FOURS, and a right LOT that has oddly many LAMPS of each of their LOTS.
COLUMNS = ((0, 1, 2, 3), (4, 5, 6, 7), (8, 9, 10, 11), (12, 13, 14, 15), (16, 17, 18, 19), (20, 21, 22, 23))
ODD_LOT = (0, 7, 9, 10, 11, 15, 17, 22)
# For each shape the size of a number beside the greatest one, such that a "pair" of both makes a TRIANGLE.
BESIDE = {"pair": 0, "eight": 2, "odd": 1}


def is_short(thing):
    """Whether thing is a LONG of length 4."""
    return is_long(thing) and product_of(thing, thing) == SHORT


def fit_short(value):
    """value, handed in for a LONG of length 4, made of tuples."""
    long = settled(value)
    if not is_short(long):
        raise Unfit()
    return long


def over(long, fours, number):
    """long turned over at fours and number."""
    row = list(long)
    for k, lot in enumerate(fours):
        half = sum([long[lamp] for lamp in lot]) // 2
        for lamp in lot:
            row[lamp] = long[lamp] - half if k == number else half - long[lamp]
    return tuple(row)


def turned_over(long, fours, number):
    """The LONG turned over at fours and number."""
    long, fours = fit_long(long), settled(fours)
    if not is_fours(fours) or not is_number_below(number, MANY_LOTS):
        raise Unfit()
    return over(long, fours, number)


def is_move(thing):
    """Whether thing is a MOVE."""
    if not isinstance(thing, tuple) or len(thing) < 2:
        return False
    if thing[0] == "over":
        return len(thing) == 3 and is_fours(thing[1]) and is_number_below(thing[2], MANY_LOTS)
    if len(thing) > 2:
        return False
    if thing[0] == "signs":
        return is_lot(thing[1]) and is_right(thing[1])
    return thing[0] == "shuffle" and is_shuffle(thing[1]) and is_keeping(thing[1])


def are_moves(thing):
    """Whether thing is a tuple, maybe (), of MOVES."""
    return isinstance(thing, tuple) and all([is_move(own) for own in thing])


def fit_moves(value):
    """value, handed in for a tuple of MOVES, made of tuples."""
    row = settled(value)
    if not are_moves(row):
        raise Unfit()
    return row


def moved_once(long, move):
    """What a MOVE makes of long."""
    if move[0] == "signs":
        return turned_at(long, move[1])
    if move[0] == "shuffle":
        return tuple([long[lamp] for lamp in shuffle_back(move[1])])
    return over(long, move[1], move[2])


def all_moved(long, moves):
    """What these MOVES, one after another, make of long."""
    for move in moves:
        long = moved_once(long, move)
    return long


def long_moved(long, row):
    """What the MOVES of row, one after another, make of long."""
    return all_moved(fit_long(long), fit_moves(row))


def back_once(move):
    """The MOVE that leads back."""
    if move[0] == "shuffle":
        return ("shuffle", shuffle_back(move[1]))
    # Signs turned, and a LONG turned over, twice at the same are as before.
    return move


def moved_back(row):
    """The row of the MOVES that lead back."""
    return tuple([back_once(move) for move in reversed(fit_moves(row))])


def lit_lamps(long):
    """The list of the LAMPS whose number is not 0."""
    return [lamp for lamp, number in enumerate(long) if number != 0]


def odd_turns(long):
    """For a LONG of shape "odd": with signs as wanted, turned over at these, it is of shape "eight"."""
    plain = [-3 if abs(number) == 3 else 1 for number in long]
    # Oddly many numbers of each LOT have the other sign: so the halves of their sums are odd.
    return turned_at(plain, ODD_LOT), ("over", COLUMNS, 0)


def eight_turns(long):
    """For a LONG of shape "eight": with signs as wanted, turned over at these, it is of shape "pair"."""
    eight = lit_lamps(long)
    # Two LOTS of these FOURS are the EIGHT. Of 2, 2, 2 and -2 the half sum is 2: just the one below 0
    # does not become 0.
    wanted = [2 if lamp in eight else 0 for lamp in range(MANY_LAMPS)]
    return turned_at(wanted, (eight[0], eight[4])), ("over", fours_of(eight[:4]), 0)


def moves_to_pair(long):
    """The tuple of MOVES that lead long, of length 4, to a LONG with two numbers 4, all others 0."""
    moves = ()
    shape = shape_of(long)
    while shape != "pair":
        wanted, turn = odd_turns(long) if shape == "odd" else eight_turns(long)
        moves += (("signs", signs_between(long, wanted)), turn)
        long = moved_once(wanted, turn)
        shape = shape_of(long)
    wanted = tuple([abs(number) for number in long])
    return moves + (("signs", signs_between(long, wanted)),)


def way_between(one, other):
    """A tuple of at most eleven MOVES that lead one to other, LONGS of length 4."""
    one, other = fit_short(one), fit_short(other)
    ahead, later = moves_to_pair(one), moves_to_pair(other)
    starts, goals = lit_lamps(all_moved(one, ahead)), lit_lamps(all_moved(other, later))
    shuffle = carried_on(tuple(zip(starts, goals)))
    return ahead + (("shuffle", shuffle),) + moved_back(later)


def is_way_between(one, other, thing):
    """Whether thing is a tuple of MOVES that lead one to other."""
    one, other = fit_long(one), fit_long(other)
    return are_moves(thing) and all_moved(one, thing) == other


def signs_between(one, other):
    """A right LOT at whose LAMPS one must get the other sign to become other."""
    one, other = fit_long(one), fit_long(other)
    if [abs(number) for number in one] != [abs(number) for number in other]:
        raise NoWay()
    turned = [lamp for lamp in range(MANY_LAMPS) if one[lamp] != other[lamp]]
    # The sign of 0 is as free as the LAMPS of gaps.
    return filled(turned, [lamp for lamp in range(MANY_LAMPS) if one[lamp] == 0])


def length_of(row):
    """The length of a LONG that is known to be one."""
    return product_of(row, row)


def pair_kind(one, other):
    """The lengths of one, of other and of their difference."""
    one, other = fit_long(one), fit_long(other)
    return length_of(one), length_of(other), length_of(difference(one, other))


def triangle_of(long):
    """A TRIANGLE whose first LONG is long."""
    long = fit_short(long)
    sizes = [abs(number) for number in long]
    greatest = sizes.index(max(sizes))
    mate = [lamp for lamp in range(MANY_LAMPS) if lamp != greatest and sizes[lamp] == BESIDE[shape_of(long)]][0]
    # The product of long with this "pair" is -2: so their sum, and its contrary, have length 4, too.
    pair = [0] * MANY_LAMPS
    for lamp in (greatest, mate):
        pair[lamp] = -4 if long[lamp] > 0 else 4
    return long, tuple(pair), tuple([-number - own for number, own in zip(long, pair)])


def is_triangle(thing):
    """Whether thing is a TRIANGLE."""
    if not isinstance(thing, tuple) or len(thing) != 3 or not all([is_short(own) for own in thing]):
        return False
    return all([sum(numbers) == 0 for numbers in zip(*thing)])
