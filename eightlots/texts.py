"""Texts of LOTS, SHUFFLES and LONGS [22]."""

from eightlots.errors import BadLine, Unfit
from eightlots.longs import is_long
from eightlots.lots import MANY_LAMPS

MANY_LINES = 4
MANY_COLUMNS = 6
BURNS = "*"
DARK = "."
FIGURES = "0123456789"


def lines_of(text):
    """The list of the lines of text."""
    return text.split("\n") if text else []


def written(head, rows):
    """The text with this first line, and a blank ahead of each row."""
    return "\n".join([head] + [" " + row for row in rows])


def numbers_written(head, numbers):
    """The text with this first line, and for each line of the board the numbers of its LAMPS."""
    words = [str(number) for number in numbers]
    return written(head, [" ".join(words[line::MANY_LINES]) for line in range(MANY_LINES)])


def lot_text(lot):
    """The text of a LOT."""
    marks = [BURNS if lamp in lot else DARK for lamp in range(MANY_LAMPS)]
    return written("lot", ["".join(marks[line::MANY_LINES]) for line in range(MANY_LINES)])


def shuffle_text(shuffle):
    """The text of a SHUFFLE."""
    return numbers_written("shuffle", shuffle)


def long_text(row):
    """The text of a LONG."""
    return numbers_written("long", row)


def marks_read(line, _):
    """The marks of a line of a LOT; None if there are no six."""
    marks = list(line[1:])
    if not line.startswith(" ") or len(marks) != MANY_COLUMNS:
        return None
    return marks if all([mark in (BURNS, DARK) for mark in marks]) else None


def words_read(line):
    """The list of the six words of a line that has a blank ahead; of none if it is no such line."""
    words = line.split(" ")
    return words[1:] if words[0] == "" and len(words) == MANY_COLUMNS + 1 else []


def lamp_words():
    """The list of all LAMPS in figures, in their order."""
    return [str(lamp) for lamp in range(MANY_LAMPS)]


def goals_read(line, ahead):
    """The LAMPS of a line of a SHUFFLE; None if there are no six, or one is there twice or in a line ahead."""
    names = lamp_words()
    words = words_read(line)
    if not words or not all([word in names for word in words]):
        return None
    goals = [names.index(word) for word in words]
    told = goals + [goal for row in ahead for goal in row]
    return goals if len(set(told)) == len(told) else None


def is_in_figures(word):
    """Whether word is a number as it is written in a text."""
    figures = word[1:] if word.startswith("-") else word
    if figures == "" or not all([figure in FIGURES for figure in figures]):
        return False
    return figures[0] != "0" or word == "0"


def numbers_read(line, _):
    """The numbers of a line of a LONG; None if there are no six."""
    words = words_read(line)
    if not words or not all([is_in_figures(word) for word in words]):
        return None
    return [int(word) for word in words]


def read_by_lamps(text, head, read_row):
    """What text tells of each LAMP: head is its first line, read_row(line, rows ahead) reads each other one."""
    lines = lines_of(text)
    if lines[:1] != [head]:
        raise BadLine(1)
    rows = []
    for number in range(2, MANY_LINES + 2):
        row = read_row(lines[number - 1], rows) if number <= len(lines) else None
        if row is None:
            raise BadLine(number)
        rows.append(row)
    if len(lines) > MANY_LINES + 1:
        raise BadLine(MANY_LINES + 2)
    return tuple([rows[lamp % MANY_LINES][lamp // MANY_LINES] for lamp in range(MANY_LAMPS)])


def read_lot(text):
    """The LOT that has this text."""
    marks = read_by_lamps(text, "lot", marks_read)
    return tuple([lamp for lamp, mark in enumerate(marks) if mark == BURNS])


def read_shuffle(text):
    """The SHUFFLE that has this text."""
    return read_by_lamps(text, "shuffle", goals_read)


def read_long(text):
    """The LONG that has this text."""
    row = read_by_lamps(text, "long", numbers_read)
    if not is_long(row):
        raise Unfit()
    return row
