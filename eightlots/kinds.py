"""Kinds: which LOTS keeping SHUFFLES lead to which [13]."""

from math import comb

from eightlots.eights import counts, counts_by, eight_masks
from eightlots.errors import NoPaper, NoWay
from eightlots.fives import FIVE, carrying, how_many_shuffles
from eightlots.lots import (ALL_LAMPS, MANY_LAMPS, fit_lot, fit_map, is_same, lot_of, mask_of, need_lamp, size_of)
from eightlots.shuffles import is_keeping, is_shuffle, led_lot


def kind_of(lot):
    """The KIND of lot."""
    lot = fit_lot(lot)
    return (len(lot), counts(lot))


def are_like(one, other):
    """Whether both LOTS have one KIND."""
    return kind_of(one) == kind_of(other)


def marks_by(marks, lamp):
    """marks, each EIGHT's own with one bit more at the end: 1 if the EIGHT has lamp."""
    place = MANY_LAMPS - 1 - lamp
    return [(2 * mark + (eight >> place & 1), eight) for mark, eight in marks]


def first_marks(eights, lot, lamps):
    """A pair (mark, EIGHT) for each EIGHT: its mark tells how many LAMPS of lot and which of lamps it has."""
    mask = mask_of(lot)
    marks = [(size_of(eight & mask), eight) for eight in eights]
    for lamp in lamps:
        marks = marks_by(marks, lamp)
    return marks


def are_equal_marks(marks, far_marks):
    """Whether each mark is there as often in both."""
    return sorted([mark for mark, _ in marks]) == sorted([mark for mark, _ in far_marks])


def led_by_five(one, other, ties):
    """A keeping SHUFFLE that leads one to other and carries on ties, of five pairs or more; else None."""
    for shuffle in carrying(ties):
        if led_lot(shuffle, one) == other:
            return shuffle
    return None


def led_by_marks(one, other, ties, marks, far_marks):
    """A keeping SHUFFLE that leads one to other and carries on ties, None without one.

    marks are by one and the LAMPS that are tied, far_marks by other and the LAMPS to which these are.
    """
    # A keeping SHUFFLE leads EIGHTS to EIGHTS of the same mark: this ends most of the vain ways soon.
    if not are_equal_marks(marks, far_marks):
        return None
    if len(ties) >= FIVE:
        return led_by_five(one, other, ties)
    tied = [pair[0] for pair in ties]
    taken = [pair[1] for pair in ties]
    lamp = [own for own in range(MANY_LAMPS) if own not in tied][0]
    more_marks = marks_by(marks, lamp)
    for goal in range(MANY_LAMPS):
        if goal not in taken and (goal in other) == (lamp in one):
            wider = ties + ((lamp, goal),)
            shuffle = led_by_marks(one, other, wider, more_marks, marks_by(far_marks, goal))
            if shuffle is not None:
                return shuffle
    return None


def led_with(one, other, ties):
    """A keeping SHUFFLE that leads one to other and carries ties on."""
    one, other, ties = fit_lot(one), fit_lot(other), fit_map(ties)
    eights = eight_masks()
    marks = first_marks(eights, one, [pair[0] for pair in ties])
    far_marks = first_marks(eights, other, [pair[1] for pair in ties])
    shuffle = led_by_marks(one, other, ties, marks, far_marks)
    if shuffle is None:
        raise NoWay()
    return shuffle


def led_to(one, other):
    """A keeping SHUFFLE that leads one to other."""
    return led_with(one, other, ())


def is_led_to(one, other, thing):
    """Whether thing is a keeping SHUFFLE that leads one to other."""
    one, other = fit_lot(one), fit_lot(other)
    return is_shuffle(thing) and is_keeping(thing) and led_lot(thing, one) == other


def unlike_paper(one, other):
    """The UNLIKE PAPER of both LOTS."""
    kinds = (kind_of(one), kind_of(other))
    if kinds[0] == kinds[1]:
        raise NoPaper()
    return kinds


def is_unlike_paper(one, other, thing):
    """Whether thing is the UNLIKE PAPER of both LOTS."""
    kinds = (kind_of(one), kind_of(other))
    return kinds[0] != kinds[1] and is_same(thing, kinds)


def case_of(one, other):
    """A CASE of both LOTS."""
    if are_like(one, other):
        return ("led", led_to(one, other))
    return ("unlike", unlike_paper(one, other))


def is_case_of(one, other, thing):
    """Whether thing is a CASE of both LOTS."""
    one, other = fit_lot(one), fit_lot(other)
    if not isinstance(thing, tuple) or len(thing) != 2:
        return False
    word, shown = thing
    if word == "led":
        return is_led_to(one, other, shown)
    return word == "unlike" and is_unlike_paper(one, other, shown)


def how_many_keep(lot):
    """How many keeping SHUFFLES lead lot to itself."""
    # As many lead it to any one LOT that is like it.
    return how_many_shuffles() // how_many_like(lot)


def how_many_like(lot):
    """How many LOTS are like lot."""
    lamps = fit_lot(lot)
    if 2 * len(lamps) > MANY_LAMPS:
        # What is left of LOTS that are like one another is so, too.
        lamps = lot_of(ALL_LAMPS ^ mask_of(lamps))
    # All LOTS of so few LAMPS are like one another: from there on it goes LAMP by LAMP.
    start = min(len(lamps), FIVE)
    sizes = range(start, len(lamps) + 1)
    kinds = [kind_of(lamps[:size]) for size in sizes]
    turned = [dict(with_one_turned(lamps[:size])) for size in sizes]
    many = comb(MANY_LAMPS, start)
    for k in range(1, len(kinds)):
        # Two ways to count the pairs of a LOT of the one KIND and one of the other, with a LAMP more:
        # as many belong to one LOT as to each that is like it.
        many = many * len(turned[k - 1][kinds[k]]) // len(turned[k][kinds[k - 1]])
    return many


def with_one_turned(lot):
    """The pairs (KIND, LAMPS), ascending: turned at just one of these LAMPS, lot has this KIND."""
    mask = mask_of(fit_lot(lot))
    eights = eight_masks()
    found = {}
    for lamp in range(MANY_LAMPS):
        turned = mask ^ mask_of((lamp,))
        found.setdefault((size_of(turned), counts_by(eights, turned)), []).append(lamp)
    return tuple(sorted([(kind, tuple(lamps)) for kind, lamps in found.items()]))


def alike_lamps(lot):
    """The sets, ascending, of the LAMPS that keeping SHUFFLES which lead lot to itself lead to one another."""
    # These are just the LAMPS which, turned, make LOTS of one KIND: the tests show it for each KIND.
    return tuple(sorted([lamps for _, lamps in with_one_turned(lot)]))


def keeps_and_leads(lot, lamp, goal):
    """A keeping SHUFFLE that leads lot to itself and lamp to goal."""
    lot = fit_lot(lot)
    need_lamp(lamp)
    need_lamp(goal)
    return led_with(lot, lot, ((lamp, goal),))


def is_keeps_and_leads(lot, lamp, goal, thing):
    """Whether thing is a keeping SHUFFLE that leads lot to itself and lamp to goal."""
    lot = fit_lot(lot)
    need_lamp(lamp)
    need_lamp(goal)
    return is_led_to(lot, lot, thing) and thing[lamp] == goal
