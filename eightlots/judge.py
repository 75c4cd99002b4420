"""CLAIMS, and one judge for all PAPERS [21]."""

from eightlots.cards import good_moves, is_lost, is_lost_paper, is_standing, lost_paper
from eightlots.errors import NoWay, NoWord, Unfit
from eightlots.fives import bar_for, can_carry, carried_on, does_carry, is_bar_for
from eightlots.kinds import are_like, is_led_to, is_unlike_paper, led_to, unlike_paper
from eightlots.longs import is_long
from eightlots.lots import MANY_LAMPS, is_lot, is_map, is_number, is_number_below, is_same, need_lamp, settled
from eightlots.mending import (fill_bar, filled, how_far, is_fill_bar, is_filled, is_mending, mending,
                               same_rest)
from eightlots.rests import alike_by_twice, half_difference, is_parting_rule, parting_rule
from eightlots.rightlots import base_lots
from eightlots.shuffles import (is_keeping, is_led_out, is_shuffle, led_lot, led_out, reached, step_shuffle,
                                steps_to)

# For each word of a CLAIM of what kinds its other things are.
PARTS = {
    "alike": ("lot", "lot"), "carried": ("map",), "keeping": ("shuffle",), "reach": ("shuffles", "lamp", "lamp"),
    "filled": ("lot", "lot"), "mended": ("lot", "many"), "lost": ("standing",), "twice": ("long", "long")}


def is_part(kind, thing):
    """Whether thing is of this kind."""
    if kind == "lot":
        return is_lot(thing)
    if kind == "map":
        return is_map(thing)
    if kind == "shuffle":
        return is_shuffle(thing)
    if kind == "shuffles":
        return isinstance(thing, tuple) and all([is_shuffle(own) for own in thing])
    if kind == "lamp":
        return is_number_below(thing, MANY_LAMPS)
    if kind == "many":
        return is_number(thing) and thing >= 0
    if kind == "standing":
        return is_standing(thing)
    return is_long(thing)


def is_claim(thing):
    """Whether thing is a CLAIM."""
    if not isinstance(thing, tuple) or len(thing) == 0 or not isinstance(thing[0], str) or thing[0] not in PARTS:
        return False
    kinds = PARTS[thing[0]]
    return len(thing) == len(kinds) + 1 and all([is_part(kind, own) for kind, own in zip(kinds, thing[1:])])


def fit_claim(value):
    """value, handed in for a CLAIM, made of tuples."""
    claim = settled(value)
    if not isinstance(claim, tuple) or len(claim) == 0 or not isinstance(claim[0], str):
        raise Unfit()
    if claim[0] not in PARTS:
        raise NoWord(claim[0])
    kinds = PARTS[claim[0]]
    if len(claim) != len(kinds) + 1:
        raise Unfit()
    for kind, own in zip(kinds, claim[1:]):
        if kind == "lamp":
            need_lamp(own)
        elif not is_part(kind, own):
            raise Unfit()
    return claim


def can_be_filled(lot, gaps):
    """Whether some right LOT fills lot at gaps."""
    try:
        filled(lot, gaps)
    except NoWay:
        return False
    return True


def holds(claim):
    """Whether a CLAIM that fits is so."""
    word, first, last = claim[0], claim[1], claim[-1]
    if word == "alike":
        return are_like(first, last)
    if word == "carried":
        return can_carry(first)
    if word == "keeping":
        return is_keeping(first)
    if word == "reach":
        return last in reached(first, claim[2])
    if word == "filled":
        return can_be_filled(first, last)
    if word == "mended":
        return how_far(first) <= last
    if word == "lost":
        return is_lost(first)
    return alike_by_twice(first, last)


def led_base_lots(shuffle):
    """The tuple of the LOTS to which shuffle leads the base LOTS."""
    return tuple([led_lot(shuffle, lot) for lot in base_lots()])


def so_paper(claim):
    """A PAPER that a CLAIM is so."""
    word, first, last = claim[0], claim[1], claim[-1]
    if word == "alike":
        return led_to(first, last)
    if word == "carried":
        return carried_on(first)
    if word == "keeping":
        return led_base_lots(first)
    if word == "reach":
        return steps_to(first, claim[2], last)
    if word == "filled":
        return filled(first, last)
    if word == "mended":
        return mending(first)
    if word == "lost":
        return lost_paper(first)
    return half_difference(first, last)


def not_paper(claim):
    """A PAPER that a CLAIM is not so."""
    word, first, last = claim[0], claim[1], claim[-1]
    if word == "alike":
        return unlike_paper(first, last)
    if word == "carried":
        return bar_for(first)
    if word == "keeping":
        return led_out(first)
    if word == "reach":
        return reached(first, claim[2])
    if word == "filled":
        return fill_bar(first, last)
    if word == "mended":
        return mending(first)
    if word == "lost":
        return good_moves(first)[0]
    return parting_rule(first, last)


def is_carrying(ties, thing):
    """Whether thing is a keeping SHUFFLE that carries ties on."""
    return is_shuffle(thing) and is_keeping(thing) and does_carry(thing, ties)


def are_steps_to(shuffles, lamp, goal, thing):
    """Whether thing are STEPS of shuffles that lead lamp to goal."""
    many = len(shuffles)
    if not isinstance(thing, tuple) or not all([is_number(step) and -many <= step < many for step in thing]):
        return False
    for step in thing:
        lamp = step_shuffle(shuffles, step)[lamp]
    return lamp == goal


def does_stay(shuffles, lamp, goal, thing):
    """Whether thing is a LOT with lamp and without goal that each of shuffles leads to itself."""
    if not is_lot(thing) or lamp not in thing or goal in thing:
        return False
    return all([led_lot(shuffle, thing) == thing for shuffle in shuffles])


def is_few_mended(lot, many, thing):
    """Whether thing is a LOT of at most many LAMPS whose sum with lot is right."""
    return is_lot(thing) and len(thing) <= many and same_rest(lot, thing)


def is_so_paper(claim, thing):
    """Whether thing is a PAPER that a CLAIM, which is so, is so."""
    word, first, last = claim[0], claim[1], claim[-1]
    if word == "alike":
        return is_led_to(first, last, thing)
    if word == "carried":
        return is_carrying(first, thing)
    if word == "keeping":
        return is_same(thing, led_base_lots(first))
    if word == "reach":
        return are_steps_to(first, claim[2], last, thing)
    if word == "filled":
        return is_filled(first, last, thing)
    if word == "mended":
        return is_few_mended(first, last, thing)
    if word == "lost":
        return is_lost_paper(first, thing)
    return is_same(thing, half_difference(first, last))


def is_not_paper(claim, thing):
    """Whether thing is a PAPER that a CLAIM, which is not so, is not."""
    word, first, last = claim[0], claim[1], claim[-1]
    if word == "alike":
        return is_unlike_paper(first, last, thing)
    if word == "carried":
        return is_bar_for(first, thing)
    if word == "keeping":
        return is_led_out(first, thing)
    if word == "reach":
        return does_stay(first, claim[2], last, thing)
    if word == "filled":
        return is_fill_bar(first, last, thing)
    if word == "mended":
        return is_mending(first, thing)
    if word == "lost":
        return is_standing(thing) and thing in good_moves(first)
    return is_parting_rule(first, last, thing)


def is_so(claim):
    """Whether claim is so."""
    return holds(fit_claim(claim))


def paper(claim):
    """A PAPER of claim."""
    claim = fit_claim(claim)
    return so_paper(claim) if holds(claim) else not_paper(claim)


def is_paper(claim, thing):
    """Whether thing is a PAPER of claim."""
    return shows(claim, thing) is not None


def shows(claim, thing):
    """True if thing is a PAPER of claim that it is so, False if one that it is not, None if it is none."""
    claim = fit_claim(claim)
    so = holds(claim)
    good = is_so_paper(claim, thing) if so else is_not_paper(claim, thing)
    return so if good else None


def not_so(claims):
    """The set of the numbers of those of claims that are not so."""
    return tuple([number for number, claim in enumerate(claims) if not is_so(claim)])


def words_so(claims):
    """The set of the words of which claims are there, all of them so."""
    found = {}
    for claim in claims:
        so = is_so(claim)
        found[claim[0]] = found.get(claim[0], True) and so
    return tuple(sorted([word for word, so in found.items() if so]))
