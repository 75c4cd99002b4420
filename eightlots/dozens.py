"""Dozens: right LOTS of twelve LAMPS, and the SIXES that EIGHTS show in them [14]."""

from eightlots.eights import eight_masks, eight_of, eights_with
from eightlots.errors import NoPaper, NoWay, Unfit
from eightlots.fives import FIVE, all_five_to_five, carrying
from eightlots.lots import (ALL_LAMPS, are_unlike_lamps, fit_lot, is_lot, is_map, lot_of, mask_of, settled,
                            size_of)
from eightlots.rightlots import is_right
from eightlots.shuffles import led_lot

SIZE = 12
SIX = 6


def is_dozen(thing):
    """Whether thing is a DOZEN."""
    return is_lot(thing) and len(thing) == SIZE and is_right(thing)


def has_all(lot, lamps):
    """Whether all lamps are in lot."""
    return all([lamp in lot for lamp in lamps])


def is_dozen_map(dozen, other, thing):
    """Whether thing is a MAP of all LAMPS of dozen to those of other."""
    if not is_map(thing) or tuple([pair[0] for pair in thing]) != dozen:
        return False
    return sorted([pair[1] for pair in thing]) == list(other)


def fit_dozen(value):
    """value, handed in for a DOZEN, made of tuples."""
    dozen = settled(value)
    if not is_dozen(dozen):
        raise Unfit()
    return dozen


def fit_five(dozen, value):
    """value, handed in for five unlike LAMPS of dozen, made of tuples."""
    five = settled(value)
    if not are_unlike_lamps(five, FIVE) or not has_all(dozen, five):
        raise Unfit()
    return five


def fit_six(dozen, value):
    """value, handed in for a SIX of dozen, made of tuples."""
    six = settled(value)
    if not is_six(dozen, six):
        raise Unfit()
    return six


def fit_dozen_map(dozen, other, value):
    """value, handed in for a MAP of all LAMPS of dozen to those of other, made of tuples."""
    ties = settled(value)
    if not is_dozen_map(dozen, other, ties):
        raise Unfit()
    return ties


def other_dozen(dozen):
    """The set of all LAMPS that are not of dozen."""
    return lot_of(ALL_LAMPS ^ mask_of(fit_dozen(dozen)))


def sixes(dozen):
    """The list, ascending, of the SIXES of dozen."""
    mask = mask_of(fit_dozen(dozen))
    shared = [eight & mask for eight in eight_masks()]
    return sorted([lot_of(own) for own in shared if size_of(own) == SIX])


def is_six(dozen, thing):
    """Whether thing is a SIX of dozen."""
    dozen = fit_dozen(dozen)
    if not is_lot(thing) or len(thing) != SIX or not has_all(dozen, thing):
        return False
    return six_of_five(dozen, thing[:FIVE]) == thing


def sixes_with(dozen, lot):
    """The list, ascending, of the SIXES of dozen that have all LAMPS of lot."""
    dozen, lot = fit_dozen(dozen), fit_lot(lot)
    if not has_all(dozen, lot):
        raise Unfit()
    return [six for six in sixes(dozen) if has_all(six, lot)]


def six_of_five(dozen, five):
    """The SIX of dozen that has these LAMPS."""
    dozen = fit_dozen(dozen)
    return lot_of(mask_of(eight_of(fit_five(dozen, five))) & mask_of(dozen))


def eight_of_six(dozen, six):
    """The EIGHT whose LAMPS of dozen are just six."""
    return eight_of(fit_six(fit_dozen(dozen), six)[:FIVE])


def pair_of_six(dozen, six):
    """The set of the two LAMPS of the EIGHT of six that are not of dozen."""
    return tuple([lamp for lamp in eight_of_six(dozen, six) if lamp not in dozen])


def sixes_of_pair(dozen, pair):
    """The list, ascending, of the two SIXES of dozen with this pair."""
    dozen, pair = fit_dozen(dozen), fit_lot(pair)
    outside = other_dozen(dozen)
    if len(pair) != 2 or not has_all(outside, pair):
        raise Unfit()
    eights = eights_with(pair, [lamp for lamp in outside if lamp not in pair])
    return sorted([tuple([lamp for lamp in eight if lamp in dozen]) for eight in eights])


def led_dozen(dozen, other, five, goals):
    """The even MAP of dozen to other that leads each LAMP of five to the one of goals at its place."""
    dozen, other = fit_dozen(dozen), fit_dozen(other)
    five, goals = fit_five(dozen, five), fit_five(other, goals)
    # Even MAPS are what keeping SHUFFLES do on a DOZEN: so just one of these leads it to other.
    shuffles = [own for own in all_five_to_five(five, goals) if led_lot(own, dozen) == other]
    return tuple([(lamp, shuffles[0][lamp]) for lamp in dozen])


def led_six(ties, six):
    """The LOT to which the MAP leads six."""
    goals = dict(ties)
    return tuple(sorted([goals[lamp] for lamp in six]))


def lost_sixes(dozen, other, ties):
    """The list, ascending, of the SIXES of dozen that ties leads to no SIX of other."""
    goals = set(sixes(other))
    return [six for six in sixes(dozen) if led_six(ties, six) not in goals]


def is_even_map(dozen, other, thing):
    """Whether thing is an even MAP of all LAMPS of dozen to those of other."""
    dozen, other = fit_dozen(dozen), fit_dozen(other)
    return is_dozen_map(dozen, other, thing) and not lost_sixes(dozen, other, thing)


def lost_six(dozen, other, ties):
    """A SIX of dozen that ties leads to no SIX of other: the least one."""
    dozen, other = fit_dozen(dozen), fit_dozen(other)
    lost = lost_sixes(dozen, other, fit_dozen_map(dozen, other, ties))
    if not lost:
        raise NoPaper()
    return lost[0]


def is_lost_six(dozen, other, ties, thing):
    """Whether thing is a SIX of dozen that ties leads to no SIX of other."""
    dozen, other = fit_dozen(dozen), fit_dozen(other)
    ties = fit_dozen_map(dozen, other, ties)
    return is_six(dozen, thing) and not is_six(other, led_six(ties, thing))


def dozen_shuffle(dozen, other, ties):
    """The keeping SHUFFLE that carries ties on."""
    dozen, other = fit_dozen(dozen), fit_dozen(other)
    found = carrying(fit_dozen_map(dozen, other, ties))
    # One that carries ties on leads EIGHTS to EIGHTS: so it is there just if ties is even.
    if not found:
        raise NoWay()
    return found[0]
