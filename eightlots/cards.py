"""Twelve cards: a game, and how DOZENS show who loses [15]."""

from itertools import combinations

from eightlots.dozens import SIZE, fit_dozen, fit_five, has_all, is_dozen, led_dozen, sixes
from eightlots.errors import NoPaper, Unfit
from eightlots.lots import are_unlike_lamps, fit_lot, is_lot, is_number, is_number_below, is_same, settled

MANY_CARDS = 12
LEAST_SUM = 21
SIX = 6
FIVE = 5
# A DOZEN and a NUMBERING of it: all others are what even MAPS make of this one.
BASE_DOZEN = (0, 1, 3, 4, 5, 7, 8, 9, 10, 15, 17, 21)
BASE_NUMBERS = (0, 1, 3, 4, 5, 15, 17, 21, 10, 8, 9, 7)


def are_cards(thing, many):
    """Whether thing is a set of so many CARDS."""
    return is_lot(thing) and len(thing) == many and thing[-1] < MANY_CARDS


def is_standing(thing):
    """Whether thing is a STANDING."""
    return are_cards(thing, SIX) and sum(thing) >= LEAST_SUM


def fit_standing(value):
    """value, handed in for a STANDING, made of tuples."""
    standing = settled(value)
    if not is_standing(standing):
        raise Unfit()
    return standing


def exchanged(standing, card, lesser):
    """The set of CARDS with lesser in the place of card."""
    return tuple(sorted([own for own in standing if own != card] + [lesser]))


def moved(standing, card, lesser):
    """The STANDING that comes of it if card is taken out and lesser put there."""
    standing = fit_standing(standing)
    if not is_number_below(card, MANY_CARDS) or not is_number_below(lesser, MANY_CARDS):
        raise Unfit()
    if card not in standing or lesser in standing or lesser > card:
        raise Unfit()
    return fit_standing(exchanged(standing, card, lesser))


def moves(standing):
    """The list, ascending, of all STANDINGS to which a move leads."""
    standing = fit_standing(standing)
    found = []
    for card in standing:
        found += [exchanged(standing, card, own) for own in range(card) if own not in standing]
    return sorted([own for own in found if is_standing(own)])


def lost_standings():
    """The list, by their sums, of all lost STANDINGS."""
    standings = [own for own in combinations(range(MANY_CARDS), 6) if sum(own) >= LEAST_SUM]
    # A move leads from a STANDING just to those of lesser sums that have five CARDS in common with it.
    # So it is lost if no lost one ahead has five of its CARDS. Those of one sum never share five.
    taken = set()
    lost = []
    for standing in sorted(standings, key=sum):
        fives = list(combinations(list(standing), 5))
        if not any([five in taken for five in fives]):
            lost.append(standing)
            for five in fives:
                taken.add(five)
    return lost


def is_lost(standing):
    """Whether standing is lost."""
    return fit_standing(standing) in lost_standings()


def good_moves(standing):
    """The list, ascending, of the lost STANDINGS to which a move leads."""
    lost = lost_standings()
    return [own for own in moves(standing) if own in lost]


def lost_with(total):
    """The list, ascending, of the lost STANDINGS with this sum."""
    if not is_number(total):
        raise Unfit()
    return sorted([own for own in lost_standings() if sum(own) == total])


def lost_of_five(cards):
    """The lost STANDING that has these five CARDS."""
    cards = settled(cards)
    if not are_cards(cards, FIVE):
        raise Unfit()
    return [own for own in lost_standings() if has_all(own, cards)][0]


def lost_paper(standing):
    """A PAPER that standing is lost, with the least answers."""
    standing = fit_standing(standing)
    lost = lost_standings()
    if standing not in lost:
        raise NoPaper()
    paper = []
    for one in moves(standing):
        answers = [own for own in moves(one) if own in lost]
        paper.append((one, answers[0]))
    return tuple(paper)


def is_lost_paper(standing, thing):
    """Whether thing is a PAPER that standing is lost."""
    standing = fit_standing(standing)
    if not isinstance(thing, tuple) or not all([isinstance(pair, tuple) and len(pair) == 2 for pair in thing]):
        return False
    if not is_same(tuple([pair[0] for pair in thing]), tuple(moves(standing))):
        return False
    lost = lost_standings()
    return all([is_standing(answer) and answer in lost and answer in moves(one) for one, answer in thing])


def numbering(dozen, five):
    """The NUMBERING of dozen that begins with five."""
    dozen = fit_dozen(dozen)
    goals = dict(led_dozen(BASE_DOZEN, dozen, BASE_NUMBERS[:FIVE], fit_five(dozen, five)))
    return tuple([goals[lamp] for lamp in BASE_NUMBERS])


def is_numbering(dozen, thing):
    """Whether thing is a NUMBERING of dozen."""
    dozen = fit_dozen(dozen)
    if not are_unlike_lamps(thing, SIZE) or sorted(thing) != list(dozen):
        return False
    lots = [tuple(sorted([thing[card] for card in standing])) for standing in lost_standings()]
    return sorted(lots) == sixes(dozen)


def fit_numbers(value):
    """value, handed in for a NUMBERING of some DOZEN, made of tuples."""
    numbers = settled(value)
    if not are_unlike_lamps(numbers, SIZE):
        raise Unfit()
    dozen = tuple(sorted(numbers))
    if not is_dozen(dozen) or not is_numbering(dozen, numbers):
        raise Unfit()
    return numbers


def lamps_of_cards(numbers, standing):
    """The LOT of the LAMPS for the CARDS of standing."""
    numbers, standing = fit_numbers(numbers), fit_standing(standing)
    return tuple(sorted([numbers[card] for card in standing]))


def cards_of_lamps(numbers, lot):
    """The set of the CARDS of these LAMPS."""
    numbers, lot = fit_numbers(numbers), fit_lot(lot)
    if not has_all(numbers, lot):
        raise Unfit()
    return tuple(sorted([numbers.index(lamp) for lamp in lot]))
