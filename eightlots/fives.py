"""Five to five: keeping SHUFFLES by what they lead where [12]."""

from itertools import combinations
from math import perm

from eightlots.board import board_shuffle
from eightlots.eights import eight_of
from eightlots.errors import NoPaper, NoWay, Unfit
from eightlots.lots import (MANY_LAMPS, are_unlike_lamps, fit_map, is_number_below, is_same, need_lamp, need_number,
                            settled)
from eightlots.shuffles import behind, is_keeping, is_shuffle, shuffle_back
from eightlots.signs import words_with

FIVE = 5
# So many SEVENS begin with the same five LAMPS: so often any five LAMPS are led to any five.
MANY_SEVENS = 48
MANY_SHUFFLES = 244823040
# The SEVEN from which all others are looked at.
START = (0, 1, 2, 3, 4, 5, 8)
# The EIGHT of these has LAMP 6 and not LAMP 7.
PARTING_FIVE = (0, 1, 2, 8, 13)
# Places and factors of all SHIFTS without a swap that lead LAMPS 0 to 4 to themselves, with a row that begins 0, 0.
STILL_SHIFTS = (
    ((0, 1, 2, 3, 4, 5), (1, 1, 1, 1, 1, 1)), ((0, 1, 3, 2, 5, 4), (1, 1, 1, 1, 1, 1)),
    ((0, 1, 4, 5, 2, 3), (1, 1, 1, 1, 1, 1)), ((0, 1, 5, 4, 3, 2), (1, 1, 1, 1, 1, 1)),
    ((0, 1, 2, 4, 5, 3), (1, 2, 3, 3, 3, 3)), ((0, 1, 3, 5, 4, 2), (1, 2, 3, 3, 3, 3)),
    ((0, 1, 4, 2, 3, 5), (1, 2, 3, 3, 3, 3)), ((0, 1, 5, 3, 2, 4), (1, 2, 3, 3, 3, 3)),
    ((0, 1, 2, 5, 3, 4), (1, 3, 2, 2, 2, 2)), ((0, 1, 3, 4, 2, 5), (1, 3, 2, 2, 2, 2)),
    ((0, 1, 4, 3, 5, 2), (1, 3, 2, 2, 2, 2)), ((0, 1, 5, 2, 4, 3), (1, 3, 2, 2, 2, 2)))


def fit_lamps(value):
    """value, handed in for five unlike LAMPS, made of tuples."""
    lamps = settled(value)
    if not are_unlike_lamps(lamps, FIVE):
        raise Unfit()
    return lamps


def fit_seven(value):
    """value, handed in for a SEVEN, made of tuples."""
    seven = settled(value)
    if not is_seven(seven):
        raise Unfit()
    return seven


def fit_keeping(value):
    """value, handed in for a keeping SHUFFLE, made of tuples."""
    shuffle = settled(value)
    if not is_shuffle(shuffle) or not is_keeping(shuffle):
        raise Unfit()
    return shuffle


def is_seven(thing):
    """Whether thing is a SEVEN."""
    if not are_unlike_lamps(thing, len(START)):
        return False
    eight = eight_of(thing[:FIVE])
    return thing[FIVE] in eight and thing[FIVE + 1] not in eight


def sevens_from(lamps):
    """The list, ascending, of the SEVENS that begin with lamps."""
    lamps = fit_lamps(lamps)
    eight = eight_of(lamps)
    sixths = [lamp for lamp in eight if lamp not in lamps]
    others = [lamp for lamp in range(MANY_LAMPS) if lamp not in eight]
    return [lamps + (sixth, other) for sixth in sixths for other in others]


def marks_by(seven):
    """For each LAMP a mark that tells which of these EIGHTS have it: of the last LAMP of seven and four others."""
    marks = [0] * MANY_LAMPS
    for k, four in enumerate(list(combinations(list(seven[:-1]), 4))):
        for lamp in eight_of(four + seven[-1:]):
            marks[lamp] |= 1 << k
    return marks


def led_start(seven):
    """The keeping SHUFFLE that leads START to seven."""
    # LAMPS of unlike marks are told by them. Just the two of one mark, 0, are those of the EIGHT of
    # the first five LAMPS that are not in the SEVEN: 6 and 7 for START.
    goal_marks = marks_by(seven)
    goals = {mark: lamp for lamp, mark in enumerate(goal_marks)}
    led = [goals[mark] for mark in marks_by(START)]
    parting = eight_of([led[lamp] for lamp in PARTING_FIVE])
    for lamp, mark in enumerate(goal_marks):
        if mark == 0:
            led[6 if lamp in parting else 7] = lamp
    return tuple(led)


def by_seven(seven, far):
    """The keeping SHUFFLE that leads seven to far."""
    seven, far = fit_seven(seven), fit_seven(far)
    return behind(led_start(far), shuffle_back(led_start(seven)))


def still_shuffles():
    """The list of all keeping SHUFFLES that lead LAMPS 0 to 4 to themselves."""
    words = words_with(((0, 0), (1, 0)))
    return [board_shuffle((places, factors, False), word) for places, factors in STILL_SHIFTS for word in words]


def five_to_five(lamps, goals):
    """A keeping SHUFFLE that leads lamps to goals: the least one."""
    return all_five_to_five(lamps, goals)[0]


def all_five_to_five(lamps, goals):
    """The list, ascending, of all keeping SHUFFLES that lead lamps to goals."""
    first, last = sevens_from(lamps)[0], sevens_from(goals)[0]
    back, led = shuffle_back(led_start(first)), led_start(last)
    return sorted([behind(led, behind(still, back)) for still in still_shuffles()])


def does_carry(shuffle, ties):
    """Whether shuffle carries ties on."""
    return all([shuffle[lamp] == goal for lamp, goal in ties])


def carrying(ties):
    """The list, ascending, of the keeping SHUFFLES that carry on ties, a MAP of five pairs or more."""
    lamps = tuple([pair[0] for pair in ties[:FIVE]])
    goals = tuple([pair[1] for pair in ties[:FIVE]])
    return [shuffle for shuffle in all_five_to_five(lamps, goals) if does_carry(shuffle, ties)]


def widened(ties):
    """ties with pairs of the least LAMPS, each led to the least that is free, till there are five."""
    found = dict(ties)
    for lamp in range(FIVE):
        if len(found) < FIVE and lamp not in found:
            taken = list(found.values())
            found[lamp] = [goal for goal in range(FIVE) if goal not in taken][0]
    return tuple(sorted(found.items()))


def can_carry(ties):
    """Whether some keeping SHUFFLE carries ties on."""
    ties = fit_map(ties)
    return len(ties) <= FIVE or carrying(ties) != []


def carried_on(ties):
    """The least keeping SHUFFLE that carries ties on."""
    # Five LAMPS can be led anywhere: so each of the least ones to the least that is free.
    found = carrying(widened(fit_map(ties)))
    if not found:
        raise NoWay()
    return found[0]


def many_carried(ties):
    """How many keeping SHUFFLES carry ties on."""
    ties = fit_map(ties)
    if len(ties) > FIVE:
        return len(carrying(ties))
    return MANY_SHUFFLES // perm(MANY_LAMPS, len(ties))


def all_carried(ties):
    """The list, ascending, of the keeping SHUFFLES that carry ties on."""
    ties = fit_map(ties)
    if len(ties) < FIVE:
        raise Unfit()
    return carrying(ties)


def next_places(ties, lamp):
    """The set of the LAMPS to which the keeping SHUFFLES that carry ties on lead lamp."""
    ties = fit_map(ties)
    need_lamp(lamp)
    if len(ties) >= FIVE:
        return tuple(sorted(set([shuffle[lamp] for shuffle in carrying(ties)])))
    found = dict(ties)
    if lamp in found:
        return (found[lamp],)
    # With this one there are five pairs at most: so it can be led to each LAMP that is free.
    taken = list(found.values())
    return tuple([goal for goal in range(MANY_LAMPS) if goal not in taken])


def told_ties(ties):
    """The MAP of the pairs that all keeping SHUFFLES which carry ties on carry on."""
    ties = fit_map(ties)
    if len(ties) < FIVE:
        return ties
    found = carrying(ties)
    if not found:
        raise NoWay()
    pairs = list(enumerate(found[0]))
    return tuple([pair for pair in pairs if all([does_carry(shuffle, (pair,)) for shuffle in found])])


def is_bar_place(shuffle, ties, place):
    """Whether place is the number of a pair of ties that shuffle does not carry on."""
    return is_number_below(place, len(ties)) and not does_carry(shuffle, ties[place:place + 1])


def bar_for(ties):
    """The BAR of ties, each place the least that can stand there."""
    if can_carry(ties):
        raise NoPaper()
    ties = settled(ties)
    bar = []
    for shuffle in carrying(ties[:FIVE]):
        places = [place for place in range(len(ties)) if is_bar_place(shuffle, ties, place)]
        bar.append((shuffle, places[0]))
    return tuple(bar)


def is_bar_for(ties, thing):
    """Whether thing is a BAR of ties."""
    ties = fit_map(ties)
    if len(ties) <= FIVE or not isinstance(thing, tuple):
        return False
    if not all([isinstance(pair, tuple) and len(pair) == 2 for pair in thing]):
        return False
    if not is_same(tuple([pair[0] for pair in thing]), tuple(carrying(ties[:FIVE]))):
        return False
    return all([is_bar_place(shuffle, ties, place) for shuffle, place in thing])


def how_many_shuffles():
    """How many keeping SHUFFLES there are."""
    return MANY_SHUFFLES


def shuffle_number(shuffle):
    """How many keeping SHUFFLES are less."""
    shuffle = fit_keeping(shuffle)
    number = 0
    free = list(range(MANY_LAMPS))
    for goal in shuffle[:FIVE]:
        number = number * len(free) + free.index(goal)
        free.remove(goal)
    ties = tuple(enumerate(shuffle[:FIVE]))
    return number * MANY_SEVENS + carrying(ties).index(shuffle)


def shuffle_at(number):
    """The keeping SHUFFLE with this number."""
    need_number(number, MANY_SHUFFLES)
    rest, last = divmod(number, MANY_SEVENS)
    free = list(range(MANY_LAMPS))
    ties = []
    for lamp in range(FIVE):
        # So many ways have the LAMPS behind this one, each by each.
        ways = perm(MANY_LAMPS - 1 - lamp, FIVE - 1 - lamp)
        place, rest = divmod(rest, ways)
        ties.append((lamp, free.pop(place)))
    return carrying(tuple(ties))[last]


def chain_step(lamp, goal):
    """The least keeping SHUFFLE that leads each LAMP below lamp to itself, and lamp to goal."""
    need_lamp(lamp)
    need_lamp(goal)
    if lamp >= FIVE or goal < lamp:
        raise Unfit()
    return carried_on(tuple([(own, own) for own in range(lamp)]) + ((lamp, goal),))


def in_steps(shuffle):
    """The six keeping SHUFFLES that are shuffle, the first one behind the second one, and so on."""
    left = fit_keeping(shuffle)
    steps = []
    for lamp in range(FIVE):
        # What is left leads each LAMP ahead to itself: so this step does it for this LAMP, too.
        steps.append(chain_step(lamp, left[lamp]))
        left = behind(shuffle_back(steps[-1]), left)
    return tuple(steps) + (left,)
