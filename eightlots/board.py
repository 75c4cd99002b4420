"""The board: four lines, six columns [5]."""

from itertools import product

from eightlots.errors import BadLine, NoWay
from eightlots.lots import MANY_LAMPS, lot_of, mask_of, need_lamp
from eightlots.signs import changed_sign, sign_sum

COLUMNS = 6
LINES = 4


def lamp_at(column, line):
    """The LAMP in this column and line."""
    return LINES * column + line


def column_of(lamp):
    """The column of a LAMP."""
    need_lamp(lamp)
    return lamp // LINES


def line_of(lamp):
    """The line of a LAMP."""
    need_lamp(lamp)
    return lamp % LINES


def lot_sum(lots):
    """All lots added up."""
    total = 0
    for lot in lots:
        total ^= mask_of(lot)
    return lot_of(total)


def column_lamps(lot, column):
    """The set of the LAMPS that lot has in this column."""
    return tuple([lamp for lamp in lot if lamp // LINES == column])


def column_signs(lot):
    """The row of the signs of the six columns of lot."""
    signs = [0] * COLUMNS
    for lamp in lot:
        signs[lamp // LINES] ^= lamp % LINES
    return tuple(signs)


def parities(lot):
    """The parities of the six columns of lot, then that of the top."""
    found = [0] * (COLUMNS + 1)
    for lamp in lot:
        found[lamp // LINES] ^= 1
        if lamp % LINES == 0:
            found[COLUMNS] ^= 1
    return tuple(found)


def line_sets():
    """The list, ascending, of all sets of lines."""
    masks = range(1 << LINES)
    return sorted([tuple([line for line in range(LINES) if mask >> line & 1]) for mask in masks])


def column_ways(sign, parity):
    """The list, ascending, of the sets of lines with this sign as their sum, and this parity."""
    return [lines for lines in line_sets() if sign_sum(lines) == sign and len(lines) % 2 == parity]


def lots_with(row, parity):
    """The list, ascending, of all LOTS with the signs of row, and this parity in each column."""
    lots = [()]
    for column in range(COLUMNS):
        ways = column_ways(row[column], parity)
        parts = [tuple([lamp_at(column, line) for line in lines]) for lines in ways]
        lots = [lot + part for lot, part in product(lots, parts)]
    return sorted(lots)


def drawn(lot):
    """The LOT drawn."""
    lines = []
    for line in range(LINES):
        marks = ["#" if lamp_at(column, line) in lot else "." for column in range(COLUMNS)]
        lines.append("".join(marks))
    return tuple(lines)


def is_drawn_line(string):
    """Whether string can stand in a drawn LOT."""
    return len(string) == COLUMNS and all([mark in ("#", ".") for mark in string])


def read_drawn(strings):
    """The LOT that is drawn so."""
    for number in range(LINES):
        if number >= len(strings) or not is_drawn_line(strings[number]):
            raise BadLine(number)
    if len(strings) > LINES:
        raise BadLine(LINES)
    lamps = range(MANY_LAMPS)
    return tuple([lamp for lamp in lamps if strings[lamp % LINES][lamp // LINES] == "#"])


def board_shuffle(shift, row):
    """The SHUFFLE of a SHIFT and a row."""
    places, factors, swap = shift
    led = []
    for column in range(COLUMNS):
        goal = places[column]
        for line in range(LINES):
            led.append(lamp_at(goal, changed_sign(line, factors[column], swap) ^ row[goal]))
    return tuple(led)


def board_parts(shuffle):
    """The pair (shift, row) of which a SHUFFLE comes by board_shuffle."""
    places = []
    factors = []
    row = [0] * COLUMNS
    for column in range(COLUMNS):
        # Line 0 is led to the SIGN of row itself, line 1 to that one and the factor.
        start = shuffle[lamp_at(column, 0)]
        places.append(start // LINES)
        row[start // LINES] = start % LINES
        factors.append((start % LINES) ^ (shuffle[lamp_at(column, 1)] % LINES))
    second = (shuffle[lamp_at(0, 2)] % LINES) ^ row[places[0]]
    shift = (tuple(places), tuple(factors), second != changed_sign(2, factors[0], False))
    if board_shuffle(shift, row) != tuple(shuffle):
        raise NoWay()
    return (shift, tuple(row))
