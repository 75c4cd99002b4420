"""Claims and the judge [21]: each function, its edges, its errors, and the guarantees."""

import random
import unittest

from eightlots import judge
from eightlots.errors import NoLamp, NoWord, Unfit
from tests.helper import (BROKEN, EIGHT, EIGHTS, LAMPS, LIFT, MIXED, NO_ROWS, NOUGHT, ODD, PAIR, RIGHT, RIGHT_SET, SPIN, STRANGE, SWAP,
                          Case, deep_lists, is_long_by_rule, is_plain_lot, is_plain_number, is_plain_right, keeping_with,
                          keeps_by_rule, kind_by_rule, led_by, mendings_of, same, some_keeping, some_lots, some_shuffles,
                          spoiled, sum_lots)
from tests.test_cards import LOST, NO_STANDINGS, STANDINGS, is_standing, moves_by_rule
from tests.test_cards import is_paper as is_lost_paper
from tests.test_fives import NO_MAPS, STILL, is_bar_by_rule, some_maps
from tests.test_kinds import NO_LOTS, like_pairs, unlike_pairs
from tests.test_mending import bars, fills, lots_with_gaps
from tests.test_rests import less, parting_by_rule, some_pairs
from tests.test_shuffles import step_by_rule

WORDS = ("alike", "carried", "keeping", "reach", "filled", "mended", "lost", "twice")
STEP_ON = LAMPS[1:] + (0,)
LIT = (0, 1, 2)
HEADS = sorted({lot[0] for lot in RIGHT if lot})
BASES = tuple(lot for head in HEADS for lot in RIGHT if set(lot) & set(HEADS) == {head})


def is_shuffle(thing):
    """Whether thing is a SHUFFLE."""
    return type(thing) is tuple and all(is_plain_number(own) for own in thing) and sorted(thing) == list(LAMPS)


def reached_by_rule(shuffles, lamp):
    """All LAMPS to which STEPS lead lamp."""
    found = {lamp}
    while True:
        wider = found | {own[place] for own in shuffles for place in found}
        wider |= {own.index(place) for own in shuffles for place in found}
        if wider == found:
            return found
        found = wider


def so_by_rule(claim):
    """Whether a CLAIM is so."""
    word, first, last = claim[0], claim[1], claim[-1]
    if word == "alike":
        return kind_by_rule(first) == kind_by_rule(last)
    if word == "carried":
        return next(keeping_with(first), None) is not None
    if word == "keeping":
        return keeps_by_rule(first)
    if word == "reach":
        return last in reached_by_rule(first, claim[2])
    if word == "filled":
        return any(fills(first, last, right) for right in RIGHT)
    if word == "mended":
        return len(mendings_of(first)[0]) <= last
    if word == "lost":
        return LOST[first]
    return parting_by_rule(first, last) is None


def shows_so(claim, thing):
    """Whether thing is of the kind that shows that a CLAIM is so."""
    word, first, last = claim[0], claim[1], claim[-1]
    if word == "alike":
        return is_shuffle(thing) and keeps_by_rule(thing) and led_by(thing, first) == last
    if word == "carried":
        return is_shuffle(thing) and keeps_by_rule(thing) and all(thing[lamp] == goal for lamp, goal in first)
    if word == "keeping":
        return keeps_by_rule(first) and same(thing, tuple(led_by(first, lot) for lot in BASES))
    if word == "reach":
        if type(thing) is not tuple or not all(is_plain_number(own) for own in thing):
            return False
        place = claim[2]
        for step in thing:
            if step not in range(-len(first), len(first)):
                return False
            place = step_by_rule(first, step)[place]
        return place == last
    if word == "filled":
        return is_plain_right(thing) and fills(first, last, thing)
    if word == "mended":
        return is_plain_lot(thing) and len(thing) <= last and sum_lots(first, thing) in RIGHT_SET
    if word == "lost":
        return LOST[first] and is_lost_paper(first, thing)
    return parting_by_rule(first, last) is None and same(thing, tuple(own // 2 for own in less(first, last)))


def shows_not(claim, thing):
    """Whether thing is of the kind that shows that a CLAIM is not so."""
    word, first, last = claim[0], claim[1], claim[-1]
    if word == "alike":
        kinds = (kind_by_rule(first), kind_by_rule(last))
        return kinds[0] != kinds[1] and same(thing, kinds)
    if word == "carried":
        return is_bar_by_rule(first, thing)
    if word == "keeping":
        return is_plain_right(thing) and led_by(first, thing) not in RIGHT_SET
    if word == "reach":
        if not is_plain_lot(thing) or claim[2] not in thing or last in thing:
            return False
        return all(led_by(own, thing) == thing for own in first)
    if word == "filled":
        return is_plain_right(thing) and bars(first, last, thing)
    if word == "mended":
        return is_plain_lot(thing) and thing in mendings_of(first) and len(thing) > last
    if word == "lost":
        return is_standing(thing) and LOST[thing] and thing in moves_by_rule(first)
    return parting_by_rule(first, last) is not None and same(thing, parting_by_rule(first, last))


def shown_by_rule(claim, thing):
    """True, False or None, as shows tells it; never both kinds of PAPERS."""
    so, is_not = shows_so(claim, thing), shows_not(claim, thing)
    assert not (so and is_not)
    return True if so else False if is_not else None


def some_claims(seed):
    """CLAIMS of all words, so and not so."""
    source = random.Random(seed)
    found = [("alike", one, other) for one, other in source.sample(like_pairs(seed), 12) + unlike_pairs(seed, 10)]
    found += [("alike", (), ()), ("alike", LIT, (5, 9)), ("alike", LAMPS, LAMPS)]
    found += [("carried", ties) for ties in some_maps(seed, 30)]
    found += [("keeping", own) for own in some_shuffles(seed, 30)]
    pool = [LIFT, SPIN, SWAP, LAMPS, STEP_ON] + some_keeping(seed, 4)
    for many in (0, 1, 1, 2, 2, 3, 24):
        for _ in range(4):
            shuffles = tuple(source.choice(pool) for _ in range(many))
            found.append(("reach", shuffles, source.choice(LAMPS), source.choice(LAMPS)))
    found += [("reach", (SWAP,), 1, 0), ("reach", (SWAP,), 1, 2), ("reach", (), 7, 7), ("reach", (), 7, 8)]
    found += [("filled",) + own for own in source.sample(lots_with_gaps(seed), 30)] + [("filled", (), ()), ("filled", LIT, LAMPS)]
    found += [("mended", lot, source.choice((0, 1, 2, 3, 4, 5, 24, 99))) for lot in some_lots(seed, 50)]
    found += [("mended", LIT, 2), ("mended", LIT, 3), ("mended", (), 0), ("mended", (0, 1, 2, 8), 3), ("mended", (0, 1, 2, 8), 4)]
    found += [("lost", own) for own in source.sample(STANDINGS, 20) + [own for own in STANDINGS if LOST[own]][::9]]
    found += [("twice",) + own for own in source.sample(some_pairs(seed, 30), 20)] + [("twice", NOUGHT, NOUGHT)]
    return found


def no_claims():
    """Things that are none, though some are nearly so."""
    found = [(), ("alike",), ("alike", LIT), ("alike", LIT, LIT, LIT), ("bold", LIT), ("", LIT), ("Alike", LIT, LIT), "alike",
             ["alike", LIT, LIT], (LIT, "alike", LIT), (None, LIT), (3, LIT, LIT), (("alike",), LIT, LIT), ("carried",),
             ("carried", STILL, STILL), ("keeping", LAMPS, LAMPS), ("reach", (SPIN,), 0), ("reach", (SPIN,), 0, 24),
             ("reach", (SPIN,), -1, 0), ("reach", SPIN, 0, 1), ("reach", [SPIN], 0, 1), ("reach", (SPIN[1:],), 0, 1),
             ("reach", (list(SPIN),), 0, 1), ("reach", (SPIN,), True, 1), ("reach", (SPIN,), 0, False), ("reach", (None,), 0, 1),
             ("reach", None, 0, 1), ("reach", "", 0, 1), ("reach", (SPIN,), 0, 1, 2), ("mended", LIT), ("mended", LIT, -1),
             ("mended", LIT, True), ("mended", LIT, None), ("mended", LIT, "3"), ("mended", (1, 0), 3), ("mended", 3, LIT),
             ("filled", LIT), ("filled", LIT, LIT, LIT), ("lost",), ("twice", ODD), ("twice", ODD, ODD, ODD), ("carried", LAMPS),
             ("alike", list(LIT), LIT), ("lost", STANDINGS[3], STANDINGS[3]), ("keeping",), ("carried", ((0, [1]),))]
    found += [("alike", own, LIT) for own in NO_LOTS] + [("filled", LIT, own) for own in NO_LOTS]
    found += [("carried", own) for own in NO_MAPS] + [("lost", own) for own in NO_STANDINGS]
    found += [("twice", ODD, own) for own in NO_ROWS + BROKEN] + [("twice", own, ODD) for own in NO_ROWS + BROKEN]
    found += [("keeping", own) for own in (LAMPS[1:], LAMPS + (0,), (0,) * 24, list(LAMPS), None, "x" * 24, (False, True) + LAMPS[2:])]
    return found


class Claims(Case):

    def test_is_claim(self):
        claims = some_claims(391)
        self.assertEqual({own[0] for own in claims}, set(WORDS))
        for claim in claims:
            self.assertIs(judge.is_claim(claim), True)
            self.assertIs(judge.is_claim(thing=claim), True)
            self.assertIs(judge.is_claim(list(claim)), False)
            self.assertIs(judge.is_claim(claim[:1] + tuple(deep_lists(own) for own in claim[1:])), claim[0] == "x")
            self.assertIs(judge.is_claim(claim + (0,)), False)
            self.assertIs(judge.is_claim(claim[:-1]), False)
            self.assertIs(judge.is_claim(claim[1:]), False)
        self.assert_things(judge.is_claim, (), lambda thing: False, no_claims())

    def test_whatever_the_bounds(self):
        for claim in (("reach", (SPIN,) * 60, 1, 2), ("twice", (8 * 10 ** 40,) + NOUGHT[1:], NOUGHT), ("mended", LIT, 10 ** 40)):
            self.assertIs(judge.is_claim(claim), True)
            self.assertIs(judge.is_so(claim), True)

    def test_spoiled_claims(self):
        good = ("mended", LIT, 3)

        def expected(thing):
            if type(thing) is not tuple or len(thing) not in (2, 3) or type(thing[0]) is not str:
                return False
            return (thing[0] == "mended" and len(thing) == 3 and is_plain_lot(thing[1]) and is_plain_number(thing[2])
                    and thing[2] >= 0)
        self.assert_things(judge.is_claim, (), expected, spoiled(good) + [good])


class Errors(Case):

    def assert_refused(self, error, values, claim):
        """Each function with a CLAIM raises so."""
        self.assert_raises(error, values, judge.is_so, claim)
        self.assert_raises(error, values, judge.is_so, claim=deep_lists(claim))
        self.assert_raises(error, values, judge.paper, claim)
        for thing in (None, (), LAMPS):
            self.assert_raises(error, values, judge.is_paper, claim, thing)
            self.assert_raises(error, values, judge.shows, claim=claim, thing=thing)
        for function in (judge.not_so, judge.words_so):
            self.assert_raises(error, values, function, (claim,))
            self.assert_raises(error, values, function, claims=[("mended", LIT, 3), claim, ("bald",)])

    def test_no_word(self):
        for word in ("bold", "", "Alike", "lost ", "claims", "mend"):
            for rest in ((), (LIT,), (LIT, LIT), (None, 3, 4, 5, 6)):
                self.assert_refused(NoWord, {"word": word}, (word,) + rest)

    def test_unfit(self):
        for claim in ((), None, "alike", 3, (None,), (3, LIT, LIT), (("alike",), LIT, LIT), (LIT,), (True,), (None, "alike")):
            self.assert_refused(Unfit, {}, claim)
        sizes = {"alike": 3, "carried": 2, "keeping": 2, "reach": 4, "filled": 3, "mended": 3, "lost": 2, "twice": 3}
        for word in WORDS:
            for many in range(6):
                if many + 1 != sizes[word]:
                    self.assert_refused(Unfit, {}, (word,) + (24,) * many)

    def test_what_the_functions_of_a_point_raise(self):
        for bad in NO_LOTS:
            self.assert_refused(Unfit, {}, ("alike", bad, LIT))
            self.assert_refused(Unfit, {}, ("alike", LIT, bad))
        for bad in NO_MAPS:
            self.assert_refused(Unfit, {}, ("carried", bad))
        for bad in NO_STANDINGS:
            self.assert_refused(Unfit, {}, ("lost", bad))
        for bad in NO_ROWS + BROKEN:
            self.assert_refused(Unfit, {}, ("twice", bad, ODD))
            self.assert_refused(Unfit, {}, ("twice", ODD, bad))
        for claim in (("keeping", LAMPS[1:]), ("filled", (1, 0), ()), ("filled", (), (24,)), ("mended", LIT, -1),
                      ("mended", (0, 0), 3), ("reach", (LAMPS, None), 0, 1)):
            self.assert_refused(Unfit, {}, claim)
        for bad in (-1, 24, 10 ** 30, -10 ** 30):
            self.assert_refused(NoLamp, {"lamp": bad}, ("reach", (SPIN,), bad, 3))
            self.assert_refused(NoLamp, {"lamp": bad}, ("reach", (SPIN,), 3, bad))
            self.assert_refused(NoLamp, {"lamp": bad}, ("reach", (), bad, 99))

    def test_one_claim_is_asked_whole_then_the_next_one(self):
        lamp, word, unfit = ("reach", (), 0, 24), ("bold",), ("alike", LIT)
        for first, error, values in ((lamp, NoLamp, {"lamp": 24}), (word, NoWord, {"word": "bold"}), (unfit, Unfit, {})):
            for function in (judge.not_so, judge.words_so):
                self.assert_raises(error, values, function, (("mended", LIT, 2), first, lamp, word, unfit))
                self.assert_raises(error, values, function, [first, word, unfit, lamp])


class Papers(Case):

    def things_for(self, claim, paper, others):
        """Things that are, or nearly are, PAPERS of claim."""
        things = [paper, list(paper), deep_lists(paper), (paper,), paper[1:], paper[:-1], paper + paper[-1:], paper[::-1], None, (),
                  LAMPS, LIT, (0,), NOUGHT, claim, claim[1:], STEP_ON, SWAP, 0, True, "lot", (True,), (False,), [], (0, 0), (-1,)]
        # Of long PAPERS just the first part is spoiled.
        bent = spoiled(paper) if len(paper) < 10 else [(own,) + paper[1:] for own in spoiled((paper[0],))] + [paper[5:]]
        return things + others + bent[::len(bent) // 25 + 1]

    def test_papers_of_all_claims(self):
        seen = set()
        papers = []
        for number, claim in enumerate(some_claims(392)):
            so = so_by_rule(claim)
            seen.add((claim[0], so))
            self.assertIs(judge.is_so(claim), so, claim)
            self.assertIs(judge.is_so(deep_lists(claim)), so)
            paper = judge.paper(claim)
            self.assert_same(judge.paper(deep_lists(claim)), paper)
            self.assertIs(shown_by_rule(claim, paper), so, claim)
            self.assertIs(judge.shows(claim, paper), so)
            self.assertIs(judge.is_paper(claim, paper), True)
            papers.append(paper)
            things = self.things_for(claim, paper, papers[-9::3])
            for k, thing in enumerate(things[::1 if number % 4 == 0 else 9]):
                expected = shown_by_rule(claim, thing)
                self.assertIs(judge.shows(claim, thing), expected, (claim, thing))
                if k % 5 == 0:
                    self.assertIs(judge.is_paper(claim, thing=thing), expected is not None)
        self.assertEqual(seen, {(word, so) for word in WORDS for so in (True, False)})

    def test_strange_things(self):
        for claim in some_claims(393)[::12]:
            self.assert_things(judge.is_paper, (claim,), lambda thing: shown_by_rule(claim, thing) is not None, [])
            for thing in STRANGE:
                self.assertIs(judge.shows(deep_lists(claim), thing), shown_by_rule(claim, thing))

    def test_papers_of_reach(self):
        for shuffles, lamp, goal in (((SPIN, LIFT), 0, 3), ((SWAP,), 1, 2), ((), 4, 4), ((), 4, 5), ((STEP_ON,), 0, 5)):
            claim = ("reach", shuffles, lamp, goal)
            things = [tuple(own) for own in ([0] * 5, [0] * 29, [-1] * 19, [0, 1], [1, 0, -2], [2], [-3], [0] * 4 + [True])]
            things += [(0,) * 5 + (own,) for own in (None, "0", 1, -2, (0,))] + list(EIGHTS[:9]) + some_lots(394, 60)
            things += [LAMPS[:4], LAMPS[:2], (1,), (4,), (0, 1), (False, 1), [1], tuple(own for own in LAMPS if own != goal)]
            self.assert_things(judge.is_paper, (claim,), lambda thing: shown_by_rule(claim, thing) is not None, things)

    def test_papers_of_mended(self):
        for lot in ((), LIT, (0, 1, 2, 8), (1, 2, 4, 8, 16), LAMPS):
            for many in (0, 1, 2, 3, 4, 7, 8, 9, 24):
                claim = ("mended", lot, many)
                things = list(mendings_of(lot)) + [sum_lots(lot, own) for own in EIGHTS[::50] + RIGHT[::300]] + some_lots(395, 30)
                for thing in things + [list(things[0]), (False, 1, 2)]:
                    self.assertIs(judge.shows(claim, thing), shown_by_rule(claim, thing))

    def test_papers_of_filled_and_keeping(self):
        claims = [own for own in some_claims(396) if own[0] in ("filled", "keeping")]
        for claim in claims[::3]:
            for thing in RIGHT[::37] + tuple(some_lots(396, 20)):
                self.assertIs(judge.shows(claim, thing), shown_by_rule(claim, thing))


    def test_papers_of_carried(self):
        for ties in ((), ((3, 3),), ((0, 1), (1, 0)), STILL[2:], tuple(enumerate(MIXED)), tuple(enumerate(SWAP))):
            claim = ("carried", ties)
            for thing in [SWAP, LAMPS, MIXED, LAMPS[::-1], STEP_ON] + some_shuffles(398, 40):
                self.assertIs(judge.shows(claim, thing), shown_by_rule(claim, thing))
        self.assertIs(judge.shows(("carried", ((3, 3),)), SWAP), None)

    def test_papers_of_lost(self):
        for standing in STANDINGS[::5]:
            good = [own for own in moves_by_rule(standing) if LOST[own]]
            if not LOST[standing] and (len(good) == 1 or standing[0] == 0):
                claim = ("lost", standing)
                self.assertIn(judge.paper(claim), good)
                for own in good + moves_by_rule(standing)[:3] + [standing]:
                    self.assertIs(judge.shows(claim, own), False if own in good else None)
                    truths = tuple({0: False, 1: True}.get(card, card) for card in own)
                    self.assertIs(judge.shows(claim, truths), False if own in good and own[0] > 1 else None)
                    self.assertIs(judge.shows(claim, list(own)), None)


class Several(Case):

    def test_not_so_and_words_so(self):
        source = random.Random(397)
        claims = some_claims(397)
        for many in (0, 1, 1, 2, 3, 4, 5, 6, 6, 6, 6, 6, 6, 6):
            for _ in range(6):
                own = tuple(source.choice(claims) for _ in range(many))
                told = [so_by_rule(claim) for claim in own]
                self.assert_same(judge.not_so(own), tuple(k for k in range(many) if not told[k]))
                self.assert_same(judge.not_so(claims=deep_lists(own)), tuple(k for k in range(many) if not told[k]))
                words = {claim[0] for claim in own}
                expected = [word for word in words if all(so for claim, so in zip(own, told) if claim[0] == word)]
                self.assert_same(judge.words_so(own), tuple(sorted(expected)))
                self.assert_same(judge.words_so(claims=deep_lists(own)), tuple(sorted(expected)))
        self.assert_same(judge.not_so(()), ())
        self.assert_same(judge.words_so(()), ())

    def test_one_word_with_unlike_claims(self):
        so, is_not = ("mended", LIT, 3), ("mended", LIT, 2)
        for own, numbers, words in (((so, is_not), (1,), ()), ((is_not, so), (0,), ()), ((so, so), (), ("mended",)),
                                    ((is_not, is_not), (0, 1), ()), ((so, ("twice", PAIR, EIGHT)), (1,), ("mended",))):
            self.assert_same(judge.not_so(own), numbers)
            self.assert_same(judge.words_so(own), words)


if __name__ == "__main__":
    unittest.main()
