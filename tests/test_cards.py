"""Twelve cards [15]: each function, its edges, its errors, and the guarantees."""

import functools
import itertools
import random
import unittest

from eightlots import cards
from eightlots.errors import NoPaper, Unfit
from tests.helper import LAMPS, STRANGE, Case, deep_lists, is_plain_number, spoiled
from tests.test_dozens import DOZEN, NO_DOZENS, NO_FIVES, OTHER, SAMPLE, sixes_of

CARDS = tuple(range(12))
STANDINGS = tuple(own for own in itertools.combinations(CARDS, 6) if sum(own) >= 21)
NO_STANDINGS = (None, 21, "cards", (), (0, 1, 2, 3, 4, 10), (0, 1, 2, 3, 4), (0, 1, 2, 3, 4, 5, 6), (0, 1, 2, 3, 4, 12),
                (11, 4, 3, 2, 1, 0), (1, 1, 3, 5, 7, 9), (False, 1, 2, 3, 4, 11), (0, True, 2, 3, 4, 11), CARDS,
                (-1, 4, 5, 6, 7, 8), ("0", 1, 2, 3, 4, 11), ((0, 1, 2, 3, 4, 11),), (6, 7, 8, 9, 10, 12))


@functools.lru_cache(maxsize=None)
def moves_by_rule(standing):
    """All STANDINGS to which a move leads, ascending."""
    found = []
    for card, lesser in itertools.product(standing, CARDS):
        if lesser < card and lesser not in standing:
            led = tuple(sorted(set(standing) - {card} | {lesser}))
            if sum(led) >= 21:
                found.append(led)
    return sorted(found)


def reckon_lost():
    """Of each STANDING whether it is lost, by going through all games."""
    lost = {}
    for standing in sorted(STANDINGS, key=sum):
        lost[standing] = not any(lost[own] for own in moves_by_rule(standing))
    return lost


LOST = reckon_lost()
LOST_ONES = tuple(own for own in STANDINGS if LOST[own])


def is_paper(standing, thing):
    """Whether thing is a PAPER that standing is lost."""
    if type(thing) is not tuple or not all(type(own) is tuple and len(own) == 2 for own in thing):
        return False
    if [repr(own[0]) for own in thing] != [repr(own) for own in moves_by_rule(standing)]:
        return False
    return all(is_standing(answer) and LOST[answer] and answer in moves_by_rule(one) for one, answer in thing)


def is_standing(thing):
    """Whether thing is a STANDING."""
    return type(thing) is tuple and all(is_plain_number(own) for own in thing) and thing in STANDINGS


def is_numbering(dozen, thing):
    """Whether thing is a NUMBERING of dozen."""
    if type(thing) is not tuple or not all(is_plain_number(own) for own in thing) or sorted(thing) != list(dozen):
        return False
    return all(LOST[own] == (tuple(sorted(thing[card] for card in own)) in sixes_of(dozen)) for own in STANDINGS)


class Standings(Case):

    def test_is_standing(self):
        for own in itertools.combinations(CARDS, 6):
            self.assertIs(cards.is_standing(own), sum(own) >= 21)
        self.assert_things(cards.is_standing, (), is_standing, spoiled(STANDINGS[0]) + spoiled(STANDINGS[-1])
                           + list(NO_STANDINGS) + [list(STANDINGS[5])])

    def test_moves(self):
        for own in STANDINGS:
            self.assert_same(cards.moves(own), moves_by_rule(own))
            self.assertTrue(all(sum(led) < sum(own) for led in cards.moves(own)))
        self.assert_same(cards.moves([0, 1, 2, 3, 7, 9]), moves_by_rule((0, 1, 2, 3, 7, 9)))
        self.assert_same(cards.moves((0, 1, 2, 3, 4, 11)), [])

    def test_moved(self):
        for own in STANDINGS[::23] + STANDINGS[-1:]:
            found = []
            for card, lesser in itertools.product(CARDS, CARDS):
                led = tuple(sorted(set(own) - {card} | {lesser}))
                if card in own and lesser < card and lesser not in own and sum(led) >= 21:
                    self.assert_same(cards.moved(own, card, lesser), led)
                    self.assert_same(cards.moved(list(own), card, lesser), led)
                    found.append(led)
                else:
                    self.assert_raises(Unfit, {}, cards.moved, own, card, lesser)
            self.assertEqual(sorted(found), moves_by_rule(own))

    def test_no_move(self):
        standing = (0, 1, 3, 5, 8, 9)
        for card, lesser in ((None, 4), (9, None), ("9", 4), (9, "4"), (12, 4), (9, -1), (9, 10 ** 30), (True, 0), (9, True),
                             (-3, 4), (9, (4,)), (9, 9), (9, 8), (7, 4), (9, 10)):
            self.assert_raises(Unfit, {}, cards.moved, standing, card, lesser)
            self.assert_raises(Unfit, {}, cards.moved, lesser=lesser, card=card, standing=standing)
        # True would be CARD 1, which is there; it is no CARD.
        self.assert_raises(Unfit, {}, cards.moved, (1, 2, 3, 8, 9, 10), 9, False)

    def test_no_standings(self):
        for bad in NO_STANDINGS:
            for function in (cards.moves, cards.is_lost, cards.good_moves, cards.lost_paper):
                self.assert_raises(Unfit, {}, function, bad)
                self.assert_raises(Unfit, {}, function, standing=bad)
            self.assert_raises(Unfit, {}, cards.moved, bad, 11, 5)
            for thing in (None, (), ((1, 2),)):
                self.assert_raises(Unfit, {}, cards.is_lost_paper, bad, thing)
            self.assert_raises(Unfit, {}, cards.lamps_of_cards, cards.numbering(DOZEN, DOZEN[:5]), bad)


class Lost(Case):

    def test_is_lost(self):
        for own in STANDINGS:
            self.assertIs(cards.is_lost(own), LOST[own])
        self.assertIs(cards.is_lost(list(LOST_ONES[7])), True)
        self.assertEqual(len(LOST_ONES), 132)

    def test_good_moves(self):
        for own in STANDINGS[::3] + LOST_ONES[::9]:
            expected = [led for led in moves_by_rule(own) if LOST[led]]
            self.assert_same(cards.good_moves(own), expected)
            self.assert_same(cards.good_moves(list(own)), expected)
            self.assertEqual(expected == [], LOST[own])

    def test_lost_with(self):
        for total in list(range(-3, 80)) + [10 ** 30, -10 ** 30]:
            expected = [own for own in LOST_ONES if sum(own) == total]
            self.assert_same(cards.lost_with(total), sorted(expected))
        for bad in (None, True, False, "24", (24,), [], ()):
            self.assert_raises(Unfit, {}, cards.lost_with, bad)
            self.assert_raises(Unfit, {}, cards.lost_with, total=bad)

    def test_lost_of_five(self):
        for five in itertools.combinations(CARDS, 5):
            found = [own for own in LOST_ONES if set(five) <= set(own)]
            self.assertEqual(len(found), 1)
            if sum(five) % 3 == 0:
                self.assert_same(cards.lost_of_five(five), found[0])
                self.assert_same(cards.lost_of_five(list(five)), found[0])
        for bad in (None, 5, "01234", (), (0, 1, 2, 3), (0, 1, 2, 3, 4, 5), (4, 3, 2, 1, 0), (0, 1, 2, 3, 3), (0, 1, 2, 3, 12),
                    (-1, 0, 1, 2, 3), (False, 1, 2, 3, 4), (0, 1, 2, 3, "4"), ((0, 1, 2, 3, 4),), (20, 21, 22, 23, 24)):
            self.assert_raises(Unfit, {}, cards.lost_of_five, bad)


class Papers(Case):

    def test_papers(self):
        for own in STANDINGS[::6] + LOST_ONES[::4] + LOST_ONES[-1:]:
            if LOST[own]:
                paper = cards.lost_paper(own)
                self.assertTrue(is_paper(own, paper))
                self.assertEqual(list(paper), sorted(set(paper)))
                self.assert_same(cards.lost_paper(list(own)), paper)
                self.assertIs(cards.is_lost_paper(own, paper), True)
                self.assertIs(cards.is_lost_paper(list(own), thing=paper), True)
            else:
                self.assert_raises(NoPaper, {}, cards.lost_paper, own)

    def test_is_lost_paper(self):
        source = random.Random(180)
        few = [own for own in LOST_ONES if 5 <= len(moves_by_rule(own)) <= 7]
        for own in source.sample(few, 3):
            paper = cards.lost_paper(own)
            things = spoiled(paper)
            self.assert_things(cards.is_lost_paper, (own,), lambda thing: is_paper(own, thing),
                               things[::23] + [paper, paper[::-1], paper[1:], list(paper), deep_lists(paper)])
        for own in source.sample(LOST_ONES, 4):
            paper = cards.lost_paper(own)
            for k, (one, answer) in enumerate(paper):
                # Each lost answer is as good as the one that is told, nothing else is.
                answers = moves_by_rule(one)[::3] + [answer, own, one, list(answer), answer[:5], None, source.choice(LOST_ONES)]
                for other in answers:
                    thing = paper[:k] + ((one, other),) + paper[k + 1:]
                    self.assertIs(cards.is_lost_paper(own, thing), is_paper(own, thing))

    def test_no_moves_and_no_papers(self):
        self.assert_same(cards.lost_paper((0, 1, 2, 3, 4, 11)), ())
        self.assert_things(cards.is_lost_paper, ((0, 1, 2, 3, 4, 11),), lambda thing: thing == () and type(thing) is tuple,
                           [((0, 1),), (((0, 1, 2, 3, 4, 11), (0, 1, 2, 3, 4, 11)),)])
        for own in [one for one in STANDINGS if not LOST[one]][::60]:
            thing = tuple((one, (cards.good_moves(one) or [one])[0]) for one in moves_by_rule(own))
            self.assertIs(cards.is_lost_paper(own, thing), False)
            self.assertIs(cards.is_lost_paper(own, ()), False)

    def test_truths_are_no_cards(self):
        standing = [own for own in LOST_ONES if own[:2] == (0, 1) and len(moves_by_rule(own)) > 1][0]
        paper = cards.lost_paper(standing)
        one, answer = paper[0]
        self.assertTrue(answer[1] == 1 and one[1] == 1)
        for pair in ((one, (0, True) + answer[2:]), ((0, True) + one[2:], answer)):
            bent = (pair,) + paper[1:]
            self.assertEqual(bent, paper)
            self.assertIs(cards.is_lost_paper(standing, bent), False)


class Numberings(Case):

    def test_numbering(self):
        source = random.Random(181)
        for dozen in SAMPLE:
            for _ in range(3):
                five = tuple(source.sample(dozen, 5))
                numbers = cards.numbering(dozen, five)
                self.assertEqual(numbers[:5], five)
                self.assertTrue(is_numbering(dozen, numbers))
                self.assert_same(cards.numbering(list(dozen), list(five)), numbers)
                self.assertIs(cards.is_numbering(dozen, numbers), True)
                self.assertIs(cards.is_numbering(list(dozen), thing=numbers), True)

    def test_just_one_begins_so(self):
        # 11 is told by 0 to 4; of the ways to go on with the six other LAMPS all but one break some SIX.
        numbers = cards.numbering(DOZEN, DOZEN[:5])
        rest = numbers[5:11]
        found = []
        for order in itertools.permutations(rest):
            own = numbers[:5] + order + numbers[11:]
            lamps = [tuple(sorted(own[card] for card in standing)) for standing in LOST_ONES[:20]]
            if all(six in sixes_of(DOZEN) for six in lamps) and is_numbering(DOZEN, own):
                found.append(own)
        self.assertEqual(found, [numbers])

    def test_is_numbering(self):
        source = random.Random(182)
        for dozen in SAMPLE[:3]:
            numbers = cards.numbering(dozen, tuple(source.sample(dozen, 5)))
            things = spoiled(numbers)[::4] + [dozen, list(numbers), numbers[:11], numbers + (0,), OTHER]
            for _ in range(20):
                things.append(tuple(source.sample(dozen, 12)))
                one, far = source.sample(range(12), 2)
                bent = list(numbers)
                bent[one], bent[far] = bent[far], bent[one]
                things.append(tuple(bent))
            self.assert_things(cards.is_numbering, (dozen,), lambda thing: is_numbering(dozen, thing), things)
        numbers = cards.numbering(DOZEN, (1, 0, 3, 4, 5))
        self.assertIs(cards.is_numbering(DOZEN, (True,) + numbers[1:]), False)

    def test_the_other_way_round(self):
        for dozen in SAMPLE[:3]:
            numbers = cards.numbering(dozen, dozen[:5])
            self.assertTrue(is_numbering(dozen, numbers[::-1]))
            self.assertIs(cards.is_numbering(dozen, numbers[::-1]), True)

    def test_lamps_and_cards(self):
        source = random.Random(183)
        for dozen in SAMPLE[:4]:
            numbers = cards.numbering(dozen, tuple(source.sample(dozen, 5)))
            for standing in source.sample(STANDINGS, 40) + list(LOST_ONES[::20]):
                lamps = tuple(sorted(numbers[card] for card in standing))
                self.assert_same(cards.lamps_of_cards(numbers, standing), lamps)
                self.assert_same(cards.lamps_of_cards(list(numbers), list(standing)), lamps)
                self.assert_same(cards.cards_of_lamps(numbers, lamps), standing)
                self.assertEqual(lamps in sixes_of(dozen), LOST[standing])
            for size in range(13):
                lot = tuple(sorted(source.sample(dozen, size)))
                expected = tuple(card for card in CARDS if numbers[card] in lot)
                self.assert_same(cards.cards_of_lamps(numbers, lot), expected)
                self.assert_same(cards.cards_of_lamps(list(numbers), list(lot)), expected)

    def test_wrong_ones(self):
        numbers = cards.numbering(DOZEN, DOZEN[:5])
        for bad in NO_DOZENS:
            self.assert_raises(Unfit, {}, cards.numbering, bad, DOZEN[:5])
            for thing in (None, numbers, STRANGE):
                self.assert_raises(Unfit, {}, cards.is_numbering, bad, thing)
        for bad in NO_FIVES:
            self.assert_raises(Unfit, {}, cards.numbering, DOZEN, bad)
            self.assert_raises(Unfit, {}, cards.numbering, five=bad, dozen=DOZEN)
        bad_numbers = (None, 12, "numbers", (), DOZEN, numbers[1:] + numbers[:1], numbers[:11], numbers + (2,), LAMPS[:12], (numbers,),
                       numbers[:1] + (True,) + numbers[2:], numbers[1::-1] + numbers[2:], numbers[:11] + (0,))
        for bad in bad_numbers:
            self.assertFalse(is_numbering(DOZEN, bad))
            self.assert_raises(Unfit, {}, cards.lamps_of_cards, bad, LOST_ONES[0])
            self.assert_raises(Unfit, {}, cards.cards_of_lamps, bad, (0, 1))
        for bad in (None, 3, (2,), (0, 2), (1, 0), (0, 0), (24,), LAMPS, ("0",), ((0,),), (False,)):
            self.assert_raises(Unfit, {}, cards.cards_of_lamps, numbers, bad)
            self.assert_raises(Unfit, {}, cards.cards_of_lamps, lot=bad, numbers=numbers)


if __name__ == "__main__":
    unittest.main()
