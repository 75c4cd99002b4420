"""Shuffles: all that leads LAMPS to LAMPS [11]."""

from math import lcm

from eightlots.errors import NoPaper, NoWay, Unfit
from eightlots.lots import (MANY_LAMPS, are_unlike_lamps, is_lot, is_number, mask_of, need_lamp,
                            top_bit)
from eightlots.rightlots import base_lots, is_right, rest_mask


def is_shuffle(thing):
    """Whether thing is a SHUFFLE."""
    return are_unlike_lamps(thing, MANY_LAMPS)


def led_lot(shuffle, lot):
    """The LOT to which lot is led."""
    return tuple(sorted([shuffle[lamp] for lamp in lot]))


def behind(shuffle, other):
    """The SHUFFLE that does first other, then shuffle."""
    return tuple([shuffle[lamp] for lamp in other])


def shuffle_back(shuffle):
    """The SHUFFLE that leads back."""
    back = [0] * MANY_LAMPS
    for lamp, goal in enumerate(shuffle):
        back[goal] = lamp
    return tuple(back)


def powered(shuffle, times):
    """shuffle so many times; below 0 times its way back so often."""
    led = [0] * MANY_LAMPS
    for own in rounds(shuffle):
        for place, lamp in enumerate(own):
            led[lamp] = own[(place + times) % len(own)]
    return tuple(led)


def round_from(shuffle, lamp):
    """The tuple of the LAMPS through which lamp is led till it comes home."""
    found = [lamp]
    while shuffle[found[-1]] != lamp:
        found.append(shuffle[found[-1]])
    return tuple(found)


def rounds(shuffle):
    """The tuple of the rounds of shuffle, ascending."""
    seen = set()
    found = []
    for lamp in range(MANY_LAMPS):
        if lamp not in seen:
            found.append(round_from(shuffle, lamp))
            for own in found[-1]:
                seen.add(own)
    return tuple(found)


def times_home(shuffle):
    """The least number from 1 of times by which each LAMP is led to itself."""
    times = 1
    for own in rounds(shuffle):
        times = lcm(times, len(own))
    return times


def base_lots_led_out(shuffle):
    """The list of the base LOTS that are led to LOTS which are not right."""
    return [lot for lot in base_lots() if not is_right(led_lot(shuffle, lot))]


def is_keeping(shuffle):
    """Whether shuffle leads each right LOT to a right LOT."""
    # Right LOTS are sums of base LOTS, and sums are led to sums.
    return not base_lots_led_out(shuffle)


def led_out(shuffle):
    """A right LOT that is led to one that is not right."""
    lots = base_lots_led_out(shuffle)
    if not lots:
        raise NoPaper()
    return lots[0]


def is_led_out(shuffle, thing):
    """Whether thing is a right LOT that is led to one that is not right."""
    return is_lot(thing) and is_right(thing) and not is_right(led_lot(shuffle, thing))


def right_part(shuffle):
    """The number k such that one of 2 ** k right LOTS is led to a right LOT."""
    # k is how many of the rests to which base LOTS are led are no sums of those ahead.
    found = []
    for lot in base_lots():
        rest = rest_mask(mask_of(led_lot(shuffle, lot)))
        for own in found:
            if rest & top_bit(own):
                rest ^= own
        if rest:
            found.append(rest)
    return len(found)


def word_shuffle(word):
    """The SHUFFLE that leads each line of a column to its sum with the SIGN of word there."""
    # A column's LAMPS are four times the column and the line: only the two last bits are changed.
    return tuple([lamp ^ word[lamp // 4] for lamp in range(MANY_LAMPS)])


def step_shuffle(shuffles, step):
    """The SHUFFLE of one STEP."""
    return shuffles[step] if step >= 0 else shuffle_back(shuffles[-1 - step])


def by_steps(shuffles, steps):
    """The SHUFFLE of these STEPS, the first one done first."""
    many = len(shuffles)
    if not all([is_number(step) and -many <= step < many for step in steps]):
        raise Unfit()
    led = tuple(range(MANY_LAMPS))
    for step in steps:
        led = behind(step_shuffle(shuffles, step), led)
    return led


def steps_back(steps):
    """The STEPS that lead back."""
    return tuple([-1 - step for step in reversed(steps)])


def ways_from(shuffles, lamp):
    """A dict: for each LAMP to which STEPS lead lamp the least of the shortest STEPS to it."""
    steps = list(range(-len(shuffles), len(shuffles)))
    singles = [step_shuffle(shuffles, step) for step in steps]
    ways = {lamp: ()}
    latest = [lamp]
    while latest:
        # latest stands in the order of its ways: so the first way to a LAMP is the least one.
        ahead = latest
        latest = []
        for place in ahead:
            for step, single in zip(steps, singles):
                if single[place] not in ways:
                    ways[single[place]] = ways[place] + (step,)
                    latest.append(single[place])
    return ways


def reached(shuffles, lamp):
    """The LOT of the LAMPS to which some STEPS lead lamp."""
    need_lamp(lamp)
    return tuple(sorted(list(ways_from(shuffles, lamp))))


def steps_to(shuffles, lamp, goal):
    """The shortest STEPS that lead lamp to goal, the least of these."""
    need_lamp(lamp)
    need_lamp(goal)
    ways = ways_from(shuffles, lamp)
    if goal not in ways:
        raise NoWay()
    return ways[goal]
