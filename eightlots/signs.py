"""Signs and words [4]."""

from eightlots.errors import NoPaper, Unfit
from eightlots.lots import is_number_below, need_number

MANY_PLACES = 6
MANY_WORDS = 64
PRODUCTS = ((0, 0, 0, 0), (0, 1, 2, 3), (0, 2, 3, 1), (0, 3, 1, 2))
SWAPPED = (0, 1, 3, 2)
BASE_WORDS = ((0, 0, 1, 1, 1, 1), (0, 1, 0, 1, 2, 3), (1, 0, 0, 1, 3, 2))


def sign_sum(signs):
    """All signs added up."""
    total = 0
    for sign in signs:
        total ^= sign
    return total


def sign_product(one, other):
    """The product of two SIGNS."""
    return PRODUCTS[one][other]


def sign_quotient(one, other):
    """The SIGN that multiplied by other is one."""
    if other == 0:
        raise Unfit()
    return PRODUCTS[other].index(one)


def word_from(first, second, third):
    """The WORD that begins with these three SIGNS."""
    fifth = PRODUCTS[3][first] ^ PRODUCTS[2][second] ^ third
    sixth = PRODUCTS[2][first] ^ PRODUCTS[3][second] ^ third
    return (first, second, third, first ^ second ^ third, fifth, sixth)


def is_tuple_below(thing, size, many):
    """Whether thing is a tuple of so many numbers from 0 below many."""
    if not isinstance(thing, tuple) or len(thing) != size:
        return False
    return all([is_number_below(own, many) for own in thing])


def is_word(thing):
    """Whether thing is a WORD."""
    return is_tuple_below(thing, MANY_PLACES, 4) and thing == word_from(thing[0], thing[1], thing[2])


def is_shift(thing):
    """Whether thing is a SHIFT."""
    if not isinstance(thing, tuple) or len(thing) != 3:
        return False
    places, factors, swap = thing
    if not is_tuple_below(places, MANY_PLACES, MANY_PLACES) or len(set(places)) < MANY_PLACES:
        return False
    if not is_tuple_below(factors, MANY_PLACES, 4) or 0 in factors:
        return False
    return swap is True or swap is False


def all_words():
    """The list of all WORDS, ascending."""
    return [word_at(number) for number in range(MANY_WORDS)]


def word_number(word):
    """The number of word in all_words()."""
    return 16 * word[0] + 4 * word[1] + word[2]


def word_at(number):
    """The WORD of this number."""
    need_number(number, MANY_WORDS)
    return word_from(number // 16, number // 4 % 4, number % 4)


def word_by(places, signs):
    """The WORD with these SIGNS at these three places."""
    if len(set(places)) < len(places):
        raise Unfit()
    return words_with(list(zip(places, signs)))[0]


def words_with(pairs):
    """The list, ascending, of the WORDS with these SIGNS at these places."""
    return [word for word in all_words() if all([word[place] == sign for place, sign in pairs])]


def unlike_places(one, other):
    """The set of the places at which two rows are unlike."""
    return tuple([place for place in range(MANY_PLACES) if one[place] != other[place]])


def nearest_words(row):
    """The list, ascending, of the WORDS unlike to row at the fewest places."""
    words = all_words()
    distances = [len(unlike_places(row, word)) for word in words]
    fewest = min(distances)
    return [word for word, distance in zip(words, distances) if distance == fewest]


def changed_sign(sign, factor, swap):
    """The sign, for 2 and 3 the other one of both if swap is True, multiplied by factor."""
    return PRODUCTS[SWAPPED[sign] if swap else sign][factor]


def shifted(shift, row):
    """The row to which shift leads row."""
    places, factors, swap = shift
    led = [0] * MANY_PLACES
    for place in range(MANY_PLACES):
        led[places[place]] = changed_sign(row[place], factors[place], swap)
    return tuple(led)


def shift_behind(one, other):
    """The SHIFT that does first other, then one."""
    places, factors, swap = one
    first_places, first_factors, first_swap = other
    led_places = tuple([places[place] for place in first_places])
    # A swap keeps products: so one does to the factors of other what it does to a row.
    changed = [changed_sign(factor, factors[place], swap)
               for place, factor in zip(first_places, first_factors)]
    return (led_places, tuple(changed), swap != first_swap)


def shift_back(shift):
    """The SHIFT that leads back."""
    places, factors, swap = shift
    back_places = [0] * MANY_PLACES
    back_factors = [0] * MANY_PLACES
    for place in range(MANY_PLACES):
        back_places[places[place]] = place
        back_factors[places[place]] = sign_quotient(1, changed_sign(factors[place], 1, swap))
    return (tuple(back_places), tuple(back_factors), swap)


def words_led_out(shift):
    """Those of BASE_WORDS that shift leads to no WORD."""
    return [word for word in BASE_WORDS if not is_word(shifted(shift, word))]


def is_true_shift(shift):
    """Whether shift leads each WORD to a WORD."""
    # All WORDS are sums of multiples of BASE_WORDS. A SHIFT leads sums to sums and multiples to
    # multiples: so these few tell of all.
    return not words_led_out(shift)


def word_led_out(shift):
    """A WORD that shift leads to none."""
    words = words_led_out(shift)
    if not words:
        raise NoPaper()
    return words[0]


def is_word_led_out(shift, thing):
    """Whether thing is a WORD that shift leads to none."""
    return is_word(thing) and not is_word(shifted(shift, thing))
