"""The same LOTS otherwise: a GAME of LAMPS, and ROUND LOTS [19]."""

from itertools import combinations

from eightlots.errors import NoWay, Unfit
from eightlots.lots import fit_lot, is_lot, need_lamp, need_number
from eightlots.rightlots import MANY_RIGHT, is_right
from eightlots.shuffles import is_shuffle, led_lot

# The WORTHS of all LAMPS; the tests reckon them by the rule.
WORTHS = (1, 2, 4, 8, 16, 32, 64, 127, 128, 256, 512, 911,
          1024, 1459, 1749, 1897, 2048, 2518, 2787, 2874, 3320, 3357, 3662, 4004)
# LAMPS with the WORTHS 1, 2, 4 and so on: each WORTH is the sum of some of these.
PLAIN_LAMPS = (0, 1, 2, 3, 4, 5, 6, 8, 9, 10, 12, 16)
# All others, ascending: each is the greatest LAMP of some lost LOT.
LAST_LAMPS = (7, 11, 13, 14, 15, 17, 18, 19, 20, 21, 22, 23)
MOST_TURNED = 7
MANY_ROUND = 23
GAME_SHUFFLE = (0, 1, 2, 3, 4, 5, 6, 7, 8, 9, 10, 11, 12, 13, 14, 15, 23, 22, 21, 20, 19, 18, 17, 16)
ROUND_SHUFFLE = (0, 1, 2, 3, 4, 8, 11, 15, 9, 23, 14, 13, 21, 10, 19, 5, 16, 6, 12, 17, 7, 20, 18, 22)


def lamp_worth(lamp):
    """The WORTH of a LAMP."""
    need_lamp(lamp)
    return WORTHS[lamp]


def worth_of(lot):
    """The WORTH of a LOT that is known to be one."""
    worth = 0
    for lamp in lot:
        worth ^= WORTHS[lamp]
    return worth


def lot_worth(lot):
    """The WORTH of lot."""
    return worth_of(fit_lot(lot))


def is_turn(lot, thing):
    """Whether thing is a LOT of one to seven LAMPS the greatest of which is in lot."""
    lot = fit_lot(lot)
    return is_lot(thing) and 0 < len(thing) <= MOST_TURNED and thing[-1] in lot


def few_with(worth, lamps):
    """At most six of lamps, ascending, whose WORTHS have this sum: there are such."""
    by_worth = {}
    for many in range(4):
        for few in combinations(lamps, many):
            by_worth.setdefault(worth_of(few), few)
    for own, few in by_worth.items():
        if (own ^ worth) in by_worth:
            others = by_worth[own ^ worth]
            # A LAMP that is in both adds nothing.
            return tuple([lamp for lamp in lamps if (lamp in few) != (lamp in others)])
    return ()


def winning_turn(lot):
    """A turn that leads lot to a lost LOT."""
    lot = fit_lot(lot)
    worth = worth_of(lot)
    if worth == 0:
        raise NoWay()
    # Some LAMP has the greatest bit of the sum. What is then wanted of the LAMPS below it is less
    # than its WORTH: so at most six of them have it for their sum.
    greatest = [lamp for lamp in lot if worth ^ WORTHS[lamp] < WORTHS[lamp]][0]
    return few_with(worth ^ WORTHS[greatest], list(range(greatest))) + (greatest,)


def is_winning_turn(lot, thing):
    """Whether thing is a turn that leads lot to a lost LOT."""
    return is_turn(lot, thing) and worth_of(thing) == lot_worth(lot)


def lost_lot_with(lamp):
    """The lost LOT that has, of LAST_LAMPS, this one alone."""
    plain = [own for own in PLAIN_LAMPS if WORTHS[lamp] & WORTHS[own]]
    return tuple(plain) + (lamp,)


def lost_by_number(number):
    """The lost LOT of this number."""
    need_number(number, MANY_RIGHT)
    # Two lost LOTS differ in the greatest place at one of LAST_LAMPS: so these alone tell their order.
    last = [lamp for k, lamp in enumerate(LAST_LAMPS) if number >> k & 1]
    worth = worth_of(last)
    return tuple(sorted(last + [lamp for lamp in PLAIN_LAMPS if worth & WORTHS[lamp]]))


def number_of_lost(lot):
    """The number of lot, a lost LOT."""
    lot = fit_lot(lot)
    if worth_of(lot) != 0:
        raise Unfit()
    return sum([1 << k for k, lamp in enumerate(LAST_LAMPS) if lamp in lot])


def round_lots():
    """The list of the 23 LOTS of which ROUND LOTS are sums."""
    places = range(MANY_ROUND)
    return [tuple(sorted([(k * k + j) % MANY_ROUND for k in range(1, 12)])) + (MANY_ROUND,) for j in places]


def is_round_lot(lot):
    """Whether lot is a ROUND LOT."""
    lot = fit_lot(lot)
    # ROUND LOTS are just those that share evenly many LAMPS with each of the 23.
    return all([len([lamp for lamp in own if lamp in lot]) % 2 == 0 for own in round_lots()])


def fit_word(word):
    """Raise Unfit if word is neither "game" nor "round"."""
    if word not in ("game", "round"):
        raise Unfit()


def shuffle_to_board(word):
    """A SHUFFLE that leads each lost LOT ("game"), each ROUND LOT ("round"), to a right LOT."""
    fit_word(word)
    return GAME_SHUFFLE if word == "game" else ROUND_SHUFFLE


def is_shuffle_to_board(word, thing):
    """Whether thing is such a SHUFFLE."""
    fit_word(word)
    if not is_shuffle(thing):
        return False
    lots = [lost_lot_with(lamp) for lamp in LAST_LAMPS] if word == "game" else round_lots()
    return all([is_right(led_lot(thing, lot)) for lot in lots])
