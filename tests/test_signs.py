"""Signs and words [4]: each function, its edges, its errors, and the guarantees."""

import itertools
import random
import unittest

from eightlots import signs
from eightlots.errors import NoNumber, NoPaper, Unfit
from tests.helper import ROWS, WORDS, Case, is_plain_number, product_of, spoiled, sum_of

SIGNS = (0, 1, 2, 3)
PLACES = (0, 1, 2, 3, 4, 5)
STILL = (PLACES, (1,) * 6, False)
TRUE_SHIFT = ((1, 4, 2, 3, 0, 5), (1, 1, 3, 2, 1, 1), False)
TRUE_TURN = ((0, 1, 2, 5, 4, 3), (1, 3, 2, 2, 2, 2), True)
TRUE_ROUND = ((1, 2, 3, 4, 5, 0), (1, 3, 2, 1, 3, 2), True)
FAR = (0, 3, 3, 1, 2, 2)


def swapped(sign):
    """For 2 and 3 the other one of both."""
    return {2: 3, 3: 2}.get(sign, sign)


def shifted_by_rule(shift, row):
    """The row to which a SHIFT leads row, by [4]."""
    places, factors, swap = shift
    led = {}
    for k in PLACES:
        led[places[k]] = product_of(swapped(row[k]) if swap else row[k], factors[k])
    return tuple(led[k] for k in PLACES)


def some_shifts(seed, many):
    """SHIFTS of all kinds: the same ones for the same seed."""
    source = random.Random(seed)
    shifts = [STILL, TRUE_SHIFT, TRUE_TURN, (PLACES, (1,) * 6, True), (PLACES, (2,) * 6, False)]
    while len(shifts) < many:
        places = tuple(source.sample(PLACES, 6))
        factors = tuple(source.choice((1, 2, 3)) for _ in PLACES)
        shifts.append((places, factors, source.choice((True, False))))
    return shifts


def true_shifts(seed, many):
    """True SHIFTS: the known ones, behind one another in many ways."""
    source = random.Random(seed)
    found = [STILL, TRUE_SHIFT, TRUE_TURN, TRUE_ROUND, (PLACES, (3,) * 6, False)]
    while len(found) < many:
        found.append(signs.shift_behind(source.choice(found), source.choice(found)))
    return found


def is_shift_by_rule(thing):
    """Whether thing is a SHIFT, by [4]."""
    if type(thing) is not tuple or len(thing) != 3:
        return False
    places, factors, swap = thing
    if type(places) is not tuple or type(factors) is not tuple or type(swap) is not bool:
        return False
    if not all(is_plain_number(own) for own in places + factors):
        return False
    return sorted(places) == list(PLACES) and len(factors) == 6 and all(own in (1, 2, 3) for own in factors)


def is_word_thing(thing):
    """Whether thing is a WORD, by [3]."""
    return type(thing) is tuple and all(is_plain_number(own) for own in thing) and thing in WORDS


class Sums(Case):

    def test_sum_of_none_one_and_many(self):
        self.assert_same(signs.sign_sum(()), 0)
        for size in (1, 2, 3, 4):
            for row in itertools.product(SIGNS, repeat=size):
                self.assert_same(signs.sign_sum(row), sum_of(row))
        self.assert_same(signs.sign_sum((3,) * 101 + (2,) * 100), 3)

    def test_product_and_quotient_of_all(self):
        for one, other in itertools.product(SIGNS, repeat=2):
            product = signs.sign_product(one, other)
            self.assert_same(product, product_of(one, other))
            if other:
                self.assert_same(signs.sign_quotient(product, other), one)
                self.assert_same(product_of(signs.sign_quotient(one, other), other), one)

    def test_quotient_by_nought(self):
        for one in SIGNS:
            self.assert_raises(Unfit, {}, signs.sign_quotient, one, 0)

    def test_product_with_a_sum_is_the_sum_of_the_products(self):
        for one, other, far in itertools.product(SIGNS, repeat=3):
            whole = signs.sign_product(one, signs.sign_sum((other, far)))
            self.assertEqual(whole, signs.sign_sum((signs.sign_product(one, other), signs.sign_product(one, far))))


class Words(Case):

    def test_is_word_of_all_rows(self):
        for row in ROWS:
            self.assertIs(signs.is_word(row), row in WORDS)

    def test_is_word_of_things(self):
        for word in (WORDS[0], WORDS[1], WORDS[21], WORDS[63], (1, 1, 1, 1, 0, 0)):
            self.assertIs(signs.is_word(word), True)
            self.assert_things(signs.is_word, (), is_word_thing, spoiled(word))
        self.assertIs(signs.is_word((True, True, 1, 1, 0, 0)), False)
        self.assertIs(signs.is_word((False,) * 6), False)

    def test_all_words_ascending(self):
        self.assert_same(signs.all_words(), sorted(WORDS))
        self.assertEqual(len(WORDS), 64)

    def test_numbers(self):
        for number, word in enumerate(sorted(WORDS)):
            self.assert_same(signs.word_number(word), number)
            self.assert_same(signs.word_at(number), word)

    def test_no_number(self):
        for number in (-1, 64, -64, 10 ** 30, -10 ** 30):
            self.assert_raises(NoNumber, {"number": number}, signs.word_at, number)

    def test_word_by_any_three_places(self):
        for places in itertools.permutations(PLACES, 3):
            for word in WORDS:
                told = tuple(word[place] for place in places)
                self.assert_same(signs.word_by(places, told), word)

    def test_word_by_one_place_twice(self):
        for places in ((0, 0, 1), (0, 1, 0), (1, 0, 0), (5, 5, 5)):
            self.assert_raises(Unfit, {}, signs.word_by, places, (1, 1, 1))
            self.assert_raises(Unfit, {}, signs.word_by, list(places), [0, 1, 2])

    def test_any_three_signs_tell_one_word(self):
        for places in itertools.combinations(PLACES, 3):
            found = [signs.word_by(places, told) for told in itertools.product(SIGNS, repeat=3)]
            self.assertEqual(sorted(found), sorted(WORDS))

    def test_words_with(self):
        self.assert_same(signs.words_with(()), sorted(WORDS))
        source = random.Random(4)
        for _ in range(300):
            places = sorted(source.sample(PLACES, source.randrange(7)))
            pairs = tuple((place, source.choice(SIGNS)) for place in places)
            expected = [word for word in sorted(WORDS) if all(word[place] == sign for place, sign in pairs)]
            self.assert_same(signs.words_with(pairs), expected)
        for word in WORDS:
            self.assert_same(signs.words_with(tuple(enumerate(word))), [word])

    def test_sums_and_multiples_of_words_are_words(self):
        for one, other in itertools.product(WORDS, repeat=2):
            self.assertTrue(signs.is_word(tuple(signs.sign_sum(pair) for pair in zip(one, other))))
        for word, sign in itertools.product(WORDS, SIGNS):
            self.assertTrue(signs.is_word(tuple(signs.sign_product(sign, own) for own in word)))

    def test_unlike_places(self):
        source = random.Random(5)
        for _ in range(500):
            one, other = source.choice(ROWS), source.choice(ROWS)
            expected = tuple(place for place in PLACES if one[place] != other[place])
            self.assert_same(signs.unlike_places(one, other), expected)
        self.assert_same(signs.unlike_places(FAR, FAR), ())
        for one, other in itertools.combinations(WORDS, 2):
            self.assertGreaterEqual(len(signs.unlike_places(one, other)), 4)

    def test_nearest_words_of_all_rows(self):
        for row in ROWS:
            apart = {word: len([k for k in PLACES if word[k] != row[k]]) for word in WORDS}
            least = min(apart.values())
            found = signs.nearest_words(row)
            self.assertEqual(found, [word for word in sorted(WORDS) if apart[word] == least])
            self.assertIn((least, len(found)), ((0, 1), (1, 1), (2, 3)))


class Shifts(Case):

    def test_is_shift(self):
        for shift in some_shifts(1, 12):
            self.assertIs(signs.is_shift(shift), True)
            self.assert_things(signs.is_shift, (), is_shift_by_rule, spoiled(shift))

    def test_swap_is_a_truth_and_no_number(self):
        for swap in (0, 1, None, "", (), "True"):
            self.assertIs(signs.is_shift((PLACES, (1,) * 6, swap)), False)
        self.assertIs(signs.is_shift((PLACES, (1,) * 6, True)), True)
        self.assertIs(signs.is_shift((PLACES, (True,) * 6, False)), False)
        self.assertIs(signs.is_shift(((False, True, 2, 3, 4, 5), (1,) * 6, False)), False)

    def test_shifted(self):
        source = random.Random(6)
        for shift in some_shifts(2, 300):
            for row in [source.choice(ROWS) for _ in range(5)] + [source.choice(WORDS)]:
                self.assert_same(signs.shifted(shift, row), shifted_by_rule(shift, row))

    def test_shift_behind_and_back(self):
        source = random.Random(7)
        shifts = some_shifts(3, 200)
        for one in shifts:
            other = source.choice(shifts)
            both, back = signs.shift_behind(one, other), signs.shift_back(one)
            self.assertTrue(is_shift_by_rule(both) and is_shift_by_rule(back))
            for row in [source.choice(ROWS) for _ in range(6)] + [(1, 2, 3, 1, 2, 3), (3, 2, 1, 3, 2, 1)]:
                led = shifted_by_rule(one, shifted_by_rule(other, row))
                self.assertEqual(shifted_by_rule(both, row), led)
                self.assertEqual(shifted_by_rule(back, shifted_by_rule(one, row)), row)
            self.assert_same(signs.shift_behind(one, back), STILL)
            self.assert_same(signs.shift_behind(back, one), STILL)

    def test_true_or_a_word_is_led_out(self):
        for shift in some_shifts(8, 300) + true_shifts(8, 60):
            out = [word for word in WORDS if shifted_by_rule(shift, word) not in WORDS]
            self.assertIs(signs.is_true_shift(shift), not out)
            if out:
                told = signs.word_led_out(shift)
                self.assertIn(told, out)
                self.assert_same(signs.word_led_out(shift), told)
            else:
                self.assert_raises(NoPaper, {}, signs.word_led_out, shift)
            for word in WORDS:
                self.assertIs(signs.is_word_led_out(shift, word), word in out)

    def test_true_ones_are_those_made_of_a_few(self):
        known = set()
        left = [STILL]
        while left:
            shift = left.pop()
            if shift not in known:
                known.add(shift)
                left += [signs.shift_behind(own, shift) for own in (TRUE_SHIFT, TRUE_TURN, TRUE_ROUND)]
        # One for each order of the places, and its multiples by 2 and 3.
        self.assertEqual(len(known), 3 * 720)
        self.assertTrue(all(signs.is_true_shift(shift) for shift in known))
        for shift in some_shifts(9, 3000):
            self.assertIs(signs.is_true_shift(shift), shift in known)

    def test_true_ones_behind_one_another_and_back_are_true(self):
        shifts = true_shifts(10, 150)
        for one in shifts:
            self.assertIs(signs.is_true_shift(one), True)
            self.assertIs(signs.is_true_shift(signs.shift_back(one)), True)
        for one, other in itertools.product(shifts[:20], repeat=2):
            self.assertIs(signs.is_true_shift(signs.shift_behind(one, other)), True)

    def test_is_word_led_out_of_things(self):
        shift = ((1, 4, 2, 3, 0, 5), (1, 1, 3, 2, 1, 2), False)
        word = signs.word_led_out(shift)
        for thing in [word] + spoiled(word):
            expected = is_word_thing(thing) and shifted_by_rule(shift, thing) not in WORDS
            self.assertIs(signs.is_word_led_out(shift, thing), expected)
        self.assert_things(signs.is_word_led_out, (TRUE_SHIFT,), lambda thing: False, spoiled(word) + list(WORDS))


if __name__ == "__main__":
    unittest.main()
