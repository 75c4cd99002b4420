"""The examples of the document, as they are written there."""

import importlib
import unittest

from tests.helper import Case

MODULES = ("errors", "signs", "board", "rightlots", "eights", "mending", "fours", "threes", "shuffles", "fives",
           "kinds", "dozens", "cards", "longs", "rests", "longled", "otherwise", "toldback", "judge", "texts", "desk")
ALL_EXAMPLES = 199

# [4]
SIGNS = r"""
>>> sign_sum((1, 2, 2, 3)), sign_sum(()), sign_product(2, 3), sign_quotient(1, 3), sign_quotient(0, 2)
(2, 0, 1, 2, 0)
>>> word = word_by((0, 2, 5), (3, 1, 2))
>>> word, word_at(word_number(word)) == word, is_word(list(word)), is_word((1, 1, 1, 1, 1, 2))
((3, 3, 1, 1, 2, 2), True, False, False)
>>> words_with(((1, 2), (3, 0))), words_with(((0, 1), (1, 1), (2, 1), (3, 2)))
([(0, 2, 2, 0, 1, 3), (1, 2, 3, 0, 3, 0), (2, 2, 0, 0, 2, 2), (3, 2, 1, 0, 0, 1)], [])
>>> far = (0, 3, 3, 1, 2, 2)
>>> nearest_words(far), nearest_words((3, 0, 1, 1, 2, 2)) == [word], unlike_places(far, word)
([(0, 2, 3, 1, 0, 2), (0, 3, 3, 0, 2, 1), (3, 3, 1, 1, 2, 2)], True, (0, 2))
>>> shift, odd = ((1, 4, 2, 3, 0, 5), (1, 1, 3, 2, 1, 1), False), ((1, 4, 2, 3, 0, 5), (1, 1, 3, 2, 1, 2), False)
>>> is_true_shift(shift), shifted(shift, word), shifted(odd, word), is_word_led_out(odd, word), is_word_led_out(odd, word_led_out(odd))
(True, (2, 3, 3, 2, 3, 2), (2, 3, 3, 2, 3, 3), True, True)
>>> turn = ((0, 1, 2, 5, 4, 3), (1, 3, 2, 2, 2, 2), True)
>>> shifted(turn, word), shift_behind(turn, shift), shift_back(turn) == turn, is_true_shift(turn)
((2, 1, 2, 1, 1, 2), ((1, 4, 2, 5, 0, 3), (3, 2, 3, 1, 1, 2), True), True, True)
>>> sign_quotient(2, 0)
raises Unfit()
>>> word_led_out(shift)
raises NoPaper()
"""

# [5]
BOARD = r"""
>>> lot = (0, 2, 7, 8, 9, 10, 11, 17, 20)
>>> [(column_of(own), line_of(own)) for own in (0, 7, 22)], lamp_at(5, 2), column_lamps(lot, 2)
([(0, 0), (1, 3), (5, 2)], 22, (8, 9, 10, 11))
>>> lot_sum((lot, (0, 1, 7), (1, 23))), column_signs(lot), parities(lot)
((2, 8, 9, 10, 11, 17, 20, 23), (2, 3, 0, 0, 1, 0), (0, 1, 0, 0, 1, 1, 1))
>>> drawn(lot), read_drawn(drawn(lot)) == lot
(('#.#..#', '..#.#.', '#.#...', '.##...'), True)
>>> column_ways(0, 0), column_ways(3, 0), column_ways(2, 1)
([(), (0, 1, 2, 3)], [(0, 3), (1, 2)], [(0, 1, 3), (2,)])
>>> own = lots_with(word, 1)[0]
>>> own, column_signs(own) == word, parities(own)
((0, 1, 2, 4, 5, 6, 8, 10, 11, 12, 14, 15, 16, 17, 19, 20, 21, 23), True, (1, 1, 1, 1, 1, 1, 0))
>>> board_shuffle(shift, word)
(7, 6, 5, 4, 18, 19, 16, 17, 9, 10, 8, 11, 13, 15, 14, 12, 3, 2, 1, 0, 22, 23, 20, 21)
>>> board_parts(board_shuffle(shift, word)) == (shift, word), board_shuffle(turn, (0,) * 6)[:8], board_parts(board_shuffle(odd, far))[1]
(True, (0, 1, 3, 2, 4, 7, 6, 5), (0, 3, 3, 1, 2, 2))
>>> column_of(24)
raises NoLamp(lamp=24)
>>> read_drawn(("#.....", "......", "....", "......"))
raises BadLine(number=2)
"""

# [6]
RIGHTLOTS = r"""
>>> one, other = (0, 7, 9, 10, 11, 15, 17, 22), (3, 6, 9, 13, 14, 15, 16, 21)
>>> is_right(one), is_right(one[1:]), is_right(()), is_right(lot_sum((one, other)))
(True, False, True, True)
>>> heads()[7:9], base_lots()[0], right_at(5), right_number(one), right_at(right_number(other)) == other
((8, 9), (0, 7, 11, 13, 14, 15, 18, 21), (0, 2, 13, 15, 18, 19, 20, 23), 769, True)
>>> rights_of(0), rights_of(7), one in rights_of(8), is_right((0, 4))
([()], [], True, False)
>>> right_at(-1)
raises NoNumber(number=-1)
>>> right_number((0, 4))
raises Unfit()
"""

# [7]
EIGHTS = r"""
>>> five, some = (0, 5, 9, 14, 23), (1, 2, 4, 8, 16, 17)
>>> eight_of(five), eight_number(eight_of(five)), eight_at(300)
((0, 4, 5, 6, 9, 14, 16, 23), 174, (1, 2, 9, 10, 18, 19, 21, 23))
>>> eights_with(five[:4], (1, 2, 3)), how_many_with(five, (4,))
([(0, 4, 5, 6, 9, 14, 16, 23), (0, 5, 8, 9, 10, 14, 17, 20), (0, 5, 9, 13, 14, 15, 19, 22)], 0)
>>> shared_lamps(eight_of(five), eight_at(300)), len(fullest(some)), fullest(some)[5], sum(counts(some)) == len(all_eights())
((9, 23), 6, (1, 4, 8, 13, 16, 17, 18, 22), True)
>>> is_met_evenly((3, 7, 11)), is_odd_eight((3, 7, 11), (0, 1, 2, 3, 12, 13, 14, 15)), is_odd_eight((3, 7, 11), odd_eight((3, 7, 11)))
(False, True, True)
>>> is_met_evenly(eight_at(300)), is_eight((0, 1, 2, 3, 4, 5, 6, 8)), is_eight(list(eight_at(0)))
(True, False, False)
>>> eight_of((0, 5))
raises Unfit()
>>> odd_eight(())
raises NoPaper()
"""

# [8]
MENDING = r"""
>>> five, rough = (1, 2, 4, 8, 16), (3, 7, 8, 9, 14, 20)
>>> mendings(five), how_far(rough), mendings(rough)[:2], is_hard(rough), is_hard(five)
([(3, 12, 20)], 4, [(0, 2, 9, 18), (1, 7, 13, 22)], True, False)
>>> nearest(five), nearest(rough)[0], mending_with(rough, 21), rest_of(rough), rest_of(five)
([(1, 2, 3, 4, 8, 12, 16, 20)], (0, 2, 3, 7, 8, 14, 18, 20), (11, 17, 20, 21), (0, 2, 9, 18), (3, 12, 20))
>>> mending((4, 5, 6, 7, 20, 21, 22, 23)), [is_mending(rough, own) for own in ((3, 4, 12, 23), (3, 4, 12), [3, 4, 12, 23])], mending_fours(rough)[5]
((), [True, False, False], (11, 17, 20, 21))
>>> same_rest(five, (3, 12, 20)), same_rest(five, rough), rests(0), rests(1)[:2]
(True, False, [()], [(0,), (1,)])
>>> filled((4, 5, 6), (7, 20, 21, 22, 23)), is_filled((0, 1, 2, 3), (8, 9, 10, 11, 12, 13), (0, 1, 2, 3, 8, 9, 10, 11))
((4, 5, 6, 7, 20, 21, 22, 23), True)
>>> [is_fill_bar(five, (0, 5, 10), own) for own in ((4, 6, 8, 9, 12, 15, 16, 18), (0, 1, 2, 3, 4, 5, 6, 7), ())]
[True, False, False]
>>> filled(five, (0, 5, 10))
raises NoWay()
>>> mending_with(five, 5)
raises NoWay()
>>> rests(5)
raises NoNumber(number=5)
"""

# [9]
FOURS = r"""
>>> one, other = fours_of((0, 5, 11, 18)), fours_of((5, 6, 11, 20))
>>> one
((0, 5, 11, 18), (1, 7, 8, 17), (2, 3, 15, 22), (4, 6, 12, 21), (9, 10, 13, 23), (14, 16, 19, 20))
>>> other == fours_of((10, 12, 14, 23)), lot_with(other, 13), in_one(other, 8, 21), in_one(one, 8, 21)
(True, (2, 7, 13, 18), True, False)
>>> number_of_fours(one), fours_by_number(700)[0], fours_by_number(many_fours() - 1)[0]
(883, (0, 4, 9, 13), (0, 21, 22, 23))
>>> shared_table(one, other)[:4], meeting(one, other), meeting(one, one)
(((1, 1, 0, 2, 0, 0), (1, 1, 0, 0, 2, 0), (1, 1, 2, 0, 0, 0), (0, 0, 1, 1, 1, 1)), (0, 1, 2), (0, 4))
>>> refined(one, other)[:4], refined(one, one) == one, shared(one, (0, 1, 2, 3, 4))
(((0,), (1,), (2,), (3, 15)), True, (1, 1, 2, 1, 0, 0))
>>> eight = (0, 2, 3, 5, 11, 15, 18, 22)
>>> eights_of_fours(one)[0], eight in eights_of_fours(one), shared(other, eight), fours_in(eight)[26] == one
((0, 1, 5, 7, 8, 11, 17, 18), True, (2, 2, 2, 2, 0, 0), True)
>>> is_fours(one), is_fours(one[1:] + one[:1]), is_fours(list(one)), is_fours(((0, 1, 2, 4), (3, 5, 6, 7)) + one[2:])
(True, False, False, False)
>>> fours_of((0, 5, 11))
raises Unfit()
>>> lot_with(one, 24)
raises NoLamp(24)
>>> fours_by_number(-1)
raises NoNumber(-1)
"""

# [10]
THREES = r"""
>>> eight, next_one = (0, 2, 3, 5, 11, 15, 18, 22), (9, 10, 13, 14, 16, 19, 20, 23)
>>> three, one = three_of(next_one, eight), fours_of((0, 5, 11, 18))
>>> three
((0, 2, 3, 5, 11, 15, 18, 22), (1, 4, 6, 7, 8, 12, 17, 21), (9, 10, 13, 14, 16, 19, 20, 23))
>>> threes_with(eight)[0] == three, beside(eight)[0], beside(eight)[-1] == next_one, eight_with(three, 7) == three[1]
(True, (1, 4, 6, 7, 8, 12, 17, 21), True, True)
>>> number_of_three(three), three_by_number(1000)[0], three_by_number(many_threes() - 1)[0][0]
(1260, (0, 1, 8, 11, 13, 15, 22, 23), 0)
>>> far = threes_of_fours(one)[0]
>>> far[:2], three_table(three, far), three in threes_of_fours(one)
(((0, 1, 5, 7, 8, 11, 17, 18), (2, 3, 4, 6, 12, 15, 21, 22)), ((4, 4, 0), (4, 4, 0), (0, 0, 8)), True)
>>> [own[0] for own in fours_of_three(three)][:3], [own[0] for own in fours_of_both(three, far)]
([(0, 2, 3, 5), (0, 2, 11, 22), (0, 2, 15, 18)], [(0, 5, 11, 18)])
>>> is_three(three), is_three(three[::-1]), is_three(three[:2]), is_three((eight, eight, eight))
(True, False, False, False)
>>> three_of(eight, far[0])
raises Unfit()
>>> eight_with(three, -1)
raises NoLamp(-1)
>>> three_by_number(-1)
raises NoNumber(-1)
"""

# [11]
SHUFFLES = r"""
>>> lift = tuple([n ^ 1 if n < 16 else n for n in range(24)])
>>> spin = tuple([n - n % 4 + (0, 2, 3, 1)[n % 4] for n in range(24)])
>>> swap = (1, 0) + tuple(range(2, 24))
>>> led_lot(spin, (1, 6, 23)), behind(lift, spin)[:4], behind(spin, lift)[:4], shuffle_back(spin)[:4], powered(spin, -10 ** 20 - 1)[:4]
((2, 7, 21), (1, 3, 2, 0), (2, 0, 1, 3), (0, 3, 1, 2), (0, 2, 3, 1))
>>> rounds(behind(spin, lift))[:3], times_home(behind(spin, lift)), times_home(behind(swap, spin))
(((0, 2, 1), (3,), (4, 6, 5)), 3, 12)
>>> [is_keeping(own) for own in (lift, spin, swap)], right_part(swap), word_shuffle((1, 1, 1, 1, 0, 0)) == lift
([True, True, False], 1, True)
>>> [is_led_out(swap, own) for own in ((0, 2, 3, 4, 8, 13, 19, 22), (0, 1, 2, 3, 4, 5, 6, 7), (0, 2), led_out(swap))]
[True, False, False, True]
>>> by_steps((lift, spin), (0, 1)) == behind(spin, lift), by_steps((lift, spin), (1, -1, -2))[:4], steps_back((0, 1, -2))
(True, (3, 2, 1, 0), (1, -2, -1))
>>> reached((lift, spin), 0), reached((), 5), [steps_to((lift, spin), 0, own) for own in (0, 1, 2, 3)]
((0, 1, 2, 3), (5,), [(), (-1,), (-1, 1), (-1, -2)])
>>> steps_to((lift, spin), 0, 4)
raises NoWay()
>>> led_out(spin)
raises NoPaper()
"""

# [12]
FIVES = r"""
>>> still = ((0, 0), (1, 1), (2, 2), (3, 3), (4, 4))
>>> next_places(still, 5), next_places(still, 8) == tuple(range(8, 24)), told_ties(still + ((5, 5),)) == still + ((5, 5), (6, 6), (7, 7))
((5, 6, 7), True, True)
>>> carried_on(((0, 1), (1, 0)))
(1, 0, 2, 3, 4, 5, 7, 6, 8, 9, 11, 10, 13, 12, 14, 15, 22, 23, 21, 20, 19, 18, 16, 17)
>>> carried_on(((0, 23), (5, 2)))[:6], can_carry(((0, 1), (1, 0)) + still[2:] + ((5, 5), (6, 6), (7, 7))), can_carry(still + ((5, 8),))
((23, 0, 1, 3, 20, 2), False, False)
>>> is_bar_for(still + ((5, 8),), bar_for(still + ((5, 8),))), many_carried(still) == len(sevens_from((0, 5, 9, 14, 23)))
(True, True)
>>> five_to_five((0, 5, 9, 14, 23), (3, 2, 1, 0, 4))[14], is_seven((0, 1, 2, 3, 4, 8, 7))
(0, False)
>>> shuffle_at(0) == tuple(range(24)), shuffle_at(1)[5:10], shuffle_number(shuffle_at(100000)), shuffle_at(100000)[:8]
(True, (5, 6, 7, 9, 8), 100000, (0, 1, 6, 23, 5, 10, 21, 8))
>>> carried_on(still + ((5, 8),))
raises NoWay()
>>> next_places(still, 24)
raises NoLamp(lamp=24)
"""

# [13]
KINDS = r"""
>>> one, other = (2, 3, 8, 11, 13, 17, 20), (0, 1, 5, 10, 12, 19, 22)
>>> are_like(one, other), is_led_to(one, other, led_to(one, other)), case_of(one, other)[0], is_led_to(one, other, tuple(range(24)))
(True, True, 'led', False)
>>> alike_lamps(one)
((0, 1, 4, 5, 6, 7, 9, 10, 12, 14, 16, 18, 19, 22, 23), (2, 3, 8, 11, 13, 20), (15, 21), (17,))
>>> alike_lamps((0, 1, 2, 3, 4, 5)), [own[1] for own in with_one_turned((0, 1, 2, 3, 4))]
(((0, 1, 2, 3, 4, 5), (6, 7), (8, 9, 10, 11, 12, 13, 14, 15, 16, 17, 18, 19, 20, 21, 22, 23)), [(0, 1, 2, 3, 4), (8, 9, 10, 11, 12, 13, 14, 15, 16, 17, 18, 19, 20, 21, 22, 23), (5, 6, 7)])
>>> flat, bent = (0, 1, 2, 3, 4, 5), (0, 1, 2, 3, 4, 8)
>>> are_like(flat, bent), unlike_paper(flat, bent) == (kind_of(flat), kind_of(bent)), case_of(flat, bent)[0], is_unlike_paper(flat, bent, (kind_of(bent), kind_of(flat)))
(False, True, 'unlike', False)
>>> how_many_like(bent) * how_many_keep(bent) == how_many_shuffles(), how_many_like(()), how_many_like((7,))
(True, 1, 24)
>>> keeps_and_leads(one, 2, 20)[2], led_with(one, other, ((17, 1),))[17]
(20, 1)
>>> led_to(flat, bent)
raises NoWay()
>>> keeps_and_leads(one, 17, 2)
raises NoWay()
"""

# [14]
DOZENS = r"""
>>> dozen, other = (0, 1, 3, 4, 5, 7, 8, 9, 10, 15, 17, 21), (6, 7, 9, 10, 12, 14, 18, 19, 20, 21, 22, 23)
>>> is_dozen(dozen), is_dozen(list(dozen)), is_dozen(dozen[1:]), other_dozen(dozen)
(True, False, False, (2, 6, 11, 12, 13, 14, 16, 18, 19, 20, 22, 23))
>>> six = six_of_five(dozen, (10, 9, 17, 21, 4))
>>> six, pair_of_six(dozen, six), eight_of_six(dozen, six), sixes_of_pair(dozen, (19, 20))
((4, 7, 9, 10, 17, 21), (19, 20), (4, 7, 9, 10, 17, 19, 20, 21), [(0, 1, 3, 5, 8, 15), (4, 7, 9, 10, 17, 21)])
>>> sixes(dozen)[:2], is_six(dozen, (0, 1, 3, 4, 5, 8)), sixes_with(dozen, six)
([(0, 1, 3, 4, 5, 7), (0, 1, 3, 4, 8, 17)], False, [(4, 7, 9, 10, 17, 21)])
>>> ties = led_dozen(dozen, other, (10, 9, 17, 21, 4), (20, 19, 21, 9, 7))
>>> ties
((0, 6), (1, 18), (3, 22), (4, 7), (5, 14), (7, 10), (8, 12), (9, 19), (10, 20), (15, 23), (17, 21), (21, 9))
>>> dozen_shuffle(dozen, other, ties)
(6, 18, 5, 22, 7, 14, 0, 10, 12, 19, 20, 15, 8, 11, 16, 23, 2, 21, 1, 17, 4, 9, 3, 13)
>>> bent = ties[:10] + ((17, 9), (21, 21))
>>> [is_even_map(dozen, other, own) for own in (ties, bent, ties[1:])], is_lost_six(dozen, other, bent, (0, 1, 3, 4, 8, 17))
([True, False, False], True)
>>> dozen_shuffle(dozen, other, bent)
raises NoWay()
"""

# [15]
CARDS = r"""
>>> is_standing((0, 1, 2, 3, 4, 11)), is_standing((0, 1, 2, 3, 4, 10)), is_standing([0, 1, 2, 3, 4, 11])
(True, False, False)
>>> moves((0, 1, 2, 3, 7, 9)), good_moves((0, 1, 3, 5, 8, 9)), is_lost((0, 1, 3, 5, 8, 9)), moved((0, 1, 3, 5, 8, 9), 9, 4)
([(0, 1, 2, 3, 6, 9), (0, 1, 2, 3, 7, 8)], [(0, 1, 3, 4, 5, 8), (0, 1, 3, 5, 7, 9)], False, (0, 1, 3, 4, 5, 8))
>>> lost_with(24), lost_with(22), lost_of_five((0, 1, 2, 4, 7)), is_lost((0, 1, 3, 5, 7, 9))
([(0, 1, 2, 4, 7, 10), (0, 2, 3, 5, 6, 8)], [], (0, 1, 2, 4, 7, 10), True)
>>> lost_paper((0, 1, 2, 3, 4, 11)), is_lost_paper((0, 1, 3, 5, 7, 9), lost_paper((0, 1, 3, 5, 7, 9))), is_lost_paper((0, 1, 3, 5, 7, 9), ())
((), True, False)
>>> dozen = (0, 1, 3, 4, 5, 7, 8, 9, 10, 15, 17, 21)
>>> numbers = numbering(dozen, (0, 1, 3, 4, 5))
>>> numbers, is_numbering(dozen, numbers), is_numbering(dozen, dozen)
((0, 1, 3, 4, 5, 15, 17, 21, 10, 8, 9, 7), True, False)
>>> lamps_of_cards(numbers, (0, 1, 3, 5, 7, 9)), cards_of_lamps(numbers, (4, 7, 9, 10, 17, 21))
((0, 1, 4, 8, 15, 21), (3, 6, 7, 8, 10, 11))
>>> lost_paper((0, 1, 3, 5, 8, 9))
raises NoPaper()
>>> moved((0, 1, 2, 3, 7, 9), 9, 4)
raises Unfit()
"""

# [16]
LONGS = r"""
>>> pair, eight, odd = (4, -4) + (0,) * 22, (2,) * 8 + (0,) * 16, (-3,) + (1,) * 23
>>> [is_long(own) for own in (pair, eight, odd, (0,) * 24, (1,) * 24, list(pair))], odd_lot(eight), odd_lot(odd)
([True, True, True, True, False, False], (0, 1, 2, 3, 4, 5, 6, 7), ())
>>> rule_broken((1,) * 24), rule_broken((2,) * 4 + (0,) * 20), rule_broken((2, 1) + (0,) * 22)
(('sum', 4), ('lot', (0, 1, 2, 3)), ('mixed', 1))
>>> is_rule_broken((1,) * 24, ("sum", 4)), is_rule_broken(pair, ("sum", 0)), long_length(odd), long_length(long_sum(pair, odd))
(True, False, 4, 4)
>>> long_product(pair, eight), long_product(pair, odd), long_product(eight, odd), long_contrary(pair)[:3], long_sum(eight, odd)[:9]
(0, -2, 1, (-4, 4, 0), (-1, 3, 3, 3, 3, 3, 3, 3, 1))
>>> signs_turned(odd, (0, 1, 2, 3, 4, 5, 6, 7))[:9], signs_turned(pair, (0, 1, 2, 3, 4, 5, 6, 7)) == long_contrary(pair)
((3, -1, -1, -1, -1, -1, -1, -1, 1), True)
>>> [shape_of(own) for own in (pair, eight, odd, long_sum(eight, eight))], half_long(long_sum(odd, odd)) == odd
(['pair', 'eight', 'odd', None], True)
>>> short_number(pair), short_at(0)[:3], short_at(short_number(odd)) == odd, short_number(eight) < short_number(odd)
(2, (-4, -4, 0), True, True)
>>> half_long(eight)
raises NoWay()
>>> signs_turned(odd, (0, 1))
raises Unfit()
"""

# [17]
RESTS = r"""
>>> near, axis, flat = (4, 4) + (0,) * 22, (8,) + (0,) * 23, (2,) * 8 + (0,) * 16
>>> alike_by_twice(near, (4, -4) + (0,) * 22), alike_by_twice(near, (-4, -4) + (0,) * 22), half_difference(axis, (0, -8) + (0,) * 22)[:3]
(False, True, (4, 4, 0))
>>> parting_rule(near, (4, -4) + (0,) * 22), parting_rule(near, (-3,) + (1,) * 23), parting_rule(flat, (0,) * 24), parting_rule(near, (0,) * 24)
(('sum', 4), ('half', 0), ('mixed', 8), ('lot', (0, 1)))
>>> [rest_kind(own) for own in ((0,) * 24, near, axis, (8, 8) + (0,) * 22, (5,) + (1,) * 23)], all_shortest(near) == [(-4, -4) + (0,) * 22, near]
([0, 4, 8, 0, 6], True)
>>> is_shortest(axis, (0,) * 23 + (-8,)), is_shortest(near, axis), is_shortest((12, 4) + (0,) * 22, shortest((12, 4) + (0,) * 22))
(True, False, True)
>>> frame = frame_of(axis)
>>> len(frame), frame[0][:2], frame[-1] == axis, is_frame(frame), is_frame(frame[1:]), frame_of((0,) * 5 + (-8,) + (0,) * 18) == frame
(48, (-8, 0), True, True, False, True)
>>> frame_products(frame, flat) == flat[::-1], long_by_frame(frame, flat[::-1]) == flat
(True, True)
>>> frame_of(near)
raises NoWay()
>>> long_by_frame(frame, (1,) * 24)
raises NoWay()
"""

# [18]
LONGLED = r"""
>>> columns = tuple([(4 * own, 4 * own + 1, 4 * own + 2, 4 * own + 3) for own in range(6)])
>>> two, odd = (4, 4) + (0,) * 22, (-3,) + (1,) * 23
>>> turned_over(two, columns, 1)[:6], turned_over(two, columns, 0)[:6], turned_over(odd, columns, 2)[:12]
((0, 0, 4, 4, 0, 0), (0, 0, -4, -4, 0, 0), (3, -1, -1, -1, 1, 1, 1, 1, -1, -1, -1, -1))
>>> steps = (("signs", (0, 1, 2, 3, 4, 5, 6, 7)), ("over", columns, 5))
>>> long_moved(odd, steps)[:8], long_moved(odd, steps)[18:], long_moved(long_moved(odd, steps), moved_back(steps)) == odd
((-3, 1, 1, 1, -1, -1, -1, -1), (1, 1, -1, -1, -1, -1), True)
>>> [is_move(own) for own in (steps[0], steps[1], ("over", columns, 6), ("signs", (0, 1)), ["signs", ()])]
[True, True, False, False, False]
>>> is_way_between(two, odd, way_between(two, odd)), is_way_between(two, odd, ()), len(way_between(two, odd)) < 15, pair_kind(two, odd)
(True, False, True, (4, 4, 10))
>>> signs_between(odd, tuple([-own for own in odd])) == tuple(range(24)), is_triangle(triangle_of(odd)), is_triangle((two, two, two))
(True, True, False)
>>> signs_between(two, odd)
raises NoWay()
>>> way_between(two, (8,) + (0,) * 23)
raises Unfit()
"""

# [19]
OTHERWISE = r"""
>>> some = (0, 3, 9, 14)
>>> lot_worth(some), lot_worth((5, 7, 11, 20, 23)), lot_worth(())
(2012, 140, 0)
>>> [is_turn(some, own) for own in ((2, 7, 9), (2, 7), (), (14,), [14], (3, 15))]
[True, False, False, True, False, False]
>>> is_winning_turn(some, some), is_winning_turn(some, (14,)), is_winning_turn((5, 7), winning_turn((5, 7)))
(True, False, True)
>>> lost_by_number(0), lost_by_number(1), number_of_lost((2, 3, 6, 7, 8, 9, 12, 13))
((), (0, 1, 2, 3, 4, 5, 6, 7), 5)
>>> squares = tuple(sorted([own * own % 23 for own in range(1, 12)]))
>>> is_round_lot(squares + (23,)), is_round_lot(squares), is_round_lot(()), is_round_lot((0, 1, 2, 3, 4, 5, 6, 7))
(True, False, True, False)
>>> [is_shuffle_to_board(own, shuffle_to_board(own)) for own in ("game", "round")], is_shuffle_to_board("round", tuple(range(24)))
([True, True], False)
>>> winning_turn((0, 1, 2, 3, 4, 5, 6, 7))
raises NoWay()
>>> lamp_worth(24)
raises NoLamp(lamp=24)
>>> lost_by_number(-1)
raises NoNumber(number=-1)
"""

# [20]
TOLDBACK = r"""
>>> heard = ((1, 5, 6, 18), (0, 4, 8, 12, 13, 14, 15, 16, 19, 20))
>>> fitting(heard), sure_lamps(heard), next_lamp(heard), is_heard(heard), is_heard(((1, 5), (5, 6)))
([(0, 1, 5, 6, 13, 15, 16, 18), (1, 4, 5, 6, 8, 14, 18, 20)], ((), (12, 19)), 0, True, False)
>>> heard_of((0, 1, 5, 6, 13, 15, 16, 18), heard[1]) == heard, right_within(heard[1])
(True, (0, 4, 8, 13, 14, 15, 16, 20))
>>> told = told_on(heard, 0, True)
>>> told, fitting(told), next_lamp(told), sure_lamps(told)[0]
(((0, 1, 5, 6, 18), (4, 8, 12, 13, 14, 15, 16, 19, 20)), [(0, 1, 5, 6, 13, 15, 16, 18)], None, (13, 15, 16))
>>> sure_lamps(((1, 5), (0, 4)))
raises NoWay()
>>> told_on(heard, 1, True)
raises Unfit()
>>> right_within((0, 1, 2, 3, 4, 5, 6))
raises NoPaper()
"""

# [21]
JUDGE = r"""
>>> stay, three_lit, nought = by_steps((), ()), (0, 1, 2), (0,) * 24
>>> shows(("alike", three_lit, three_lit), stay), is_so(("alike", three_lit, (5, 9, 20))), is_so(("alike", three_lit, (5, 9)))
(True, True, False)
>>> shows(("carried", ((3, 3),)), stay), is_so(("carried", ((0, 7), (1, 12), (9, 2)))), shows(("keeping", stay), base_lots())
(True, True, True)
>>> swap = (1, 0) + stay[2:]
>>> is_so(("keeping", swap)), is_right(paper(("keeping", swap))), is_right(led_lot(swap, paper(("keeping", swap))))
(False, True, False)
>>> shows(("reach", (swap,), 1, 0), (0,)), shows(("reach", (swap,), 1, 2), (0, 1)), shows(("reach", (swap,), 1, 2), (1,))
(True, False, None)
>>> shows(("filled", (0,), ()), stay), paper(("filled", stay, (3,))) == stay
(False, True)
>>> shows(("mended", three_lit, 3), three_lit), shows(("mended", three_lit, 2), three_lit), shows(("mended", three_lit, 2), (0, 1))
(True, False, None)
>>> shows(("lost", (0, 1, 2, 3, 4, 11)), ()), shows(("lost", (0, 1, 2, 3, 5, 11)), (0, 1, 2, 3, 4, 11))
(True, False)
>>> pair_row = (4, 4) + nought[2:]
>>> shows(("twice", nought, nought), nought), paper(("twice", pair_row, nought))
(True, ('lot', (0, 1)))
>>> not_so((("mended", three_lit, 2), ("mended", three_lit, 3))), words_so((("mended", three_lit, 2), ("keeping", stay)))
((0,), ('keeping',))
>>> is_claim(("mended", three_lit, 99)), is_claim(("mended", (1, 0), 3)), is_claim(("keeping", stay[:23]))
(True, False, False)
>>> is_so(("bold", three_lit))
raises NoWord(word='bold')
>>> is_so(("keeping",))
raises Unfit()
"""

# [22]
TEXTS = r"""
>>> lot_text((0, 5, 10, 11, 17)), read_lot("lot\n *.....\n .*..*.\n ..*...\n ..*..."), lot_text(())
('lot\n *.....\n .*..*.\n ..*...\n ..*...', (0, 5, 10, 11, 17), 'lot\n ......\n ......\n ......\n ......')
>>> round_text = "shuffle\n 0 4 8 12 16 20\n 2 6 10 14 18 22\n 3 7 11 15 19 23\n 1 5 9 13 17 21"
>>> read_shuffle(round_text)[:8], shuffle_text(read_shuffle(round_text)) == round_text
((0, 2, 3, 1, 4, 6, 7, 5), True)
>>> long_text((-4, 4) + (0,) * 22), read_long("long\n 4 0 0 0 0 0\n 0 0 0 0 0 4\n 0 0 0 0 0 0\n 0 0 0 0 0 0")[20:]
('long\n -4 0 0 0 0 0\n 4 0 0 0 0 0\n 0 0 0 0 0 0\n 0 0 0 0 0 0', (0, 4, 0, 0))
>>> read_lot("lot\n *.....\n .*..*\n ..*...")
raises BadLine(number=3)
>>> read_shuffle("shuffle\n 0 4 8 12 16 20\n 2 6 10 4 18 22")
raises BadLine(number=3)
>>> read_long("long\n 2 0 0 0 0 0\n 0 0 0 0 0 0\n 0 0 0 0 0 0\n 0 0 0 0 0 0")
raises Unfit()
"""

# [23]
DESK = r"""
>>> here = session(first_desk(), "turn 0 5 10 11 17 20")[0]
>>> desk, told = session(here, "right\nmends\nmend\nturn 3\nmends\nmend\nright\nshow\nundo\neight 1 2 6 9 22\nundo\nundo\nundo\nundo")
>>> told[:2], told[2:7], told[7:]
(('no', '0 4 18 22; 1 5 19 23; 2 6 16 20; 3 7 17 21; 8 9 11 14; 10 12 13 15'), ('refused NoWay', 'done', '7 17 21', 'done', 'yes'), ('lot\n *....*\n .*...*\n ..*...\n ***...', 'mend', 'done', 'eight', 'turn', 'turn', 'refused NothingDone'))
>>> session(first_desk(), "lot\n lot\n  *.....\n  .*..*.\n  ..*...\n  ..*...\nright")[1]
('done', 'no')
>>> is_request("turn 5 3"), is_request("turn 24"), is_request("eight 1 2 3 4"), is_request("lot\n x"), is_request("mend 1")
(False, False, False, True, False)
>>> session(here, "show\nlook")
raises BadLine(number=2)
"""


def names_of_package():
    """All names of the modules, as the examples use them."""
    names = {}
    for module in MODULES:
        names.update(vars(importlib.import_module("eightlots." + module)))
    return names


class Examples(Case):
    """Each example gives what stands below it; names are kept from section to section."""

    def setUp(self):
        self.names = names_of_package()
        self.run_many = 0

    def run_line(self, code, expected):
        """Run one example; expected is what stands below it, or None."""
        self.run_many += 1
        if expected is None:
            exec(code, self.names)
        elif expected.startswith("raises "):
            error = eval(expected[len("raises "):], self.names)
            self.assert_raises(type(error), vars(error), eval, code, self.names)
        else:
            self.assert_same(eval(code, self.names), eval(expected, self.names), code)

    def run_section(self, text):
        """Run all examples of one section."""
        lines = text.strip().split("\n")
        for place, line in enumerate(lines):
            if line.startswith(">>> "):
                below = lines[place + 1] if place + 1 < len(lines) else ">>> "
                self.run_line(line[4:], None if below.startswith(">>> ") else below)

    def test_all_sections_in_order(self):
        all_many = 0
        for text in (SIGNS, BOARD, RIGHTLOTS, EIGHTS, MENDING, FOURS, THREES, SHUFFLES, FIVES, KINDS, DOZENS, CARDS,
                     LONGS, RESTS, LONGLED, OTHERWISE, TOLDBACK, JUDGE, TEXTS, DESK):
            self.run_many = 0
            self.run_section(text)
            self.assertEqual(self.run_many, text.count(">>> "))
            all_many += self.run_many
        self.assertEqual(all_many, ALL_EXAMPLES)


if __name__ == "__main__":
    unittest.main()
