"""The general rules [1], [2], [3] for all functions at once, and the interface [24]."""

import ast
import copy
import importlib
import inspect
import pathlib
import unittest

from tests.helper import EIGHTS, LAMPS, MIXED, SPIN, SWAP, WORDS, Case, deep_lists, mendings_of, same
from tests.helper import LIFT as LIFT_SHUFFLE

FOLDER = pathlib.Path(__file__).resolve().parent.parent / "eightlots"
INTERFACE = {
    "signs": """sign_sum(signs) sign_product(one, other) sign_quotient(one, other) is_word(thing) is_shift(thing)
        all_words() word_number(word) word_at(number) word_by(places, signs) words_with(pairs)
        unlike_places(one, other) nearest_words(row) shifted(shift, row) shift_behind(one, other)
        shift_back(shift) is_true_shift(shift) word_led_out(shift) is_word_led_out(shift, thing)""",
    "board": """lamp_at(column, line) column_of(lamp) line_of(lamp) lot_sum(lots) column_lamps(lot, column)
        column_signs(lot) parities(lot) column_ways(sign, parity) lots_with(row, parity) drawn(lot)
        read_drawn(strings) board_shuffle(shift, row) board_parts(shuffle)""",
    "rightlots": """is_right(lot) heads() base_lots() right_at(number) right_number(lot) rights_of(many)""",
    "eights": """all_eights() is_eight(thing) eight_number(eight) eight_at(number) eight_of(lot)
        eights_with(lot, other) how_many_with(lot, other) shared_lamps(one, near) counts(lot) fullest(lot)
        is_met_evenly(lot) odd_eight(lot) is_odd_eight(lot, thing)""",
    "mending": """how_far(lot) is_hard(lot) mendings(lot) mending(lot) is_mending(lot, thing) nearest(lot)
        mending_with(lot, lamp) mending_fours(lot) rest_of(lot) same_rest(one, other) rests(many)
        filled(lot, gaps) is_filled(lot, gaps, thing) fill_bar(lot, gaps) is_fill_bar(lot, gaps, thing)""",
    "fours": """is_fours(thing) fours_of(lot) many_fours() fours_by_number(number) number_of_fours(fours)
        lot_with(fours, lamp) in_one(fours, lamp, mate) eights_of_fours(fours) fours_in(eight)
        shared(fours, lot) shared_table(one, other) meeting(one, other) refined(one, other)""",
    "threes": """is_three(thing) three_of(one, other) beside(eight) threes_with(eight) many_threes()
        three_by_number(number) number_of_three(three) eight_with(three, lamp) fours_of_three(three)
        threes_of_fours(fours) three_table(three, far) fours_of_both(three, far)""",
    "shuffles": """is_shuffle(thing) led_lot(shuffle, lot) behind(shuffle, other) shuffle_back(shuffle)
        powered(shuffle, times) rounds(shuffle) times_home(shuffle) is_keeping(shuffle) led_out(shuffle)
        is_led_out(shuffle, thing) right_part(shuffle) word_shuffle(word) by_steps(shuffles, steps)
        steps_back(steps) reached(shuffles, lamp) steps_to(shuffles, lamp, goal)""",
    "fives": """is_seven(thing) sevens_from(lamps) by_seven(seven, far) five_to_five(lamps, goals)
        all_five_to_five(lamps, goals) can_carry(ties) carried_on(ties) many_carried(ties) all_carried(ties)
        next_places(ties, lamp) told_ties(ties) bar_for(ties) is_bar_for(ties, thing) how_many_shuffles()
        shuffle_number(shuffle) shuffle_at(number) chain_step(lamp, goal) in_steps(shuffle)""",
    "kinds": """kind_of(lot) are_like(one, other) led_to(one, other) is_led_to(one, other, thing)
        unlike_paper(one, other) is_unlike_paper(one, other, thing) case_of(one, other)
        is_case_of(one, other, thing) led_with(one, other, ties) how_many_keep(lot) how_many_like(lot)
        alike_lamps(lot) keeps_and_leads(lot, lamp, goal) is_keeps_and_leads(lot, lamp, goal, thing)
        with_one_turned(lot)""",
    "dozens": """is_dozen(thing) other_dozen(dozen) sixes(dozen) is_six(dozen, thing) sixes_with(dozen, lot)
        six_of_five(dozen, five) eight_of_six(dozen, six) pair_of_six(dozen, six) sixes_of_pair(dozen, pair)
        led_dozen(dozen, other, five, goals) is_even_map(dozen, other, thing) lost_six(dozen, other, ties)
        is_lost_six(dozen, other, ties, thing) dozen_shuffle(dozen, other, ties)""",
    "cards": """is_standing(thing) moved(standing, card, lesser) moves(standing) is_lost(standing)
        good_moves(standing) lost_with(total) lost_of_five(cards) lost_paper(standing)
        is_lost_paper(standing, thing) numbering(dozen, five) is_numbering(dozen, thing)
        lamps_of_cards(numbers, standing) cards_of_lamps(numbers, lot)""",
    "longs": """is_long(thing) odd_lot(row) rule_broken(row) is_rule_broken(row, thing) long_length(long)
        long_product(one, other) long_sum(one, other) long_contrary(long) signs_turned(long, lot)
        half_long(long) shape_of(long) short_number(long) short_at(number)""",
    "rests": """alike_by_twice(one, other) half_difference(one, other) parting_rule(one, other)
        is_parting_rule(one, other, thing) rest_kind(long) shortest(long) is_shortest(long, thing)
        all_shortest(long) frame_of(long) is_frame(thing) frame_products(frame, long)
        long_by_frame(frame, products)""",
    "longled": """turned_over(long, fours, number) is_move(thing) long_moved(long, row) moved_back(row)
        way_between(one, other) is_way_between(one, other, thing) signs_between(one, other)
        pair_kind(one, other) triangle_of(long) is_triangle(thing)""",
    "otherwise": """lamp_worth(lamp) lot_worth(lot) is_turn(lot, thing) winning_turn(lot)
        is_winning_turn(lot, thing) lost_by_number(number) number_of_lost(lot) is_round_lot(lot)
        shuffle_to_board(word) is_shuffle_to_board(word, thing)""",
    "toldback": """is_heard(thing) heard_of(lot, unheard) fitting(heard) sure_lamps(heard) next_lamp(heard)
        told_on(heard, lamp, burns) right_within(unheard)""",
    "judge": """is_claim(thing) is_so(claim) paper(claim) is_paper(claim, thing) shows(claim, thing)
        not_so(claims) words_so(claims)""",
    "texts": """lot_text(lot) shuffle_text(shuffle) long_text(row) read_lot(text) read_shuffle(text)
        read_long(text)""",
    "desk": """first_desk() is_request(thing) requests(text) scene_after(scene, request) said(scene, request)
        worked(desk, request) session(desk, text)""",
}
ORDER = ["errors"] + list(INTERFACE)
LIBRARY = {"heapq", "math", "itertools", "collections"}
# What has a clock, chance, or a way to files and the world outside.
OUTSIDE = {"open", "input", "print", "eval", "exec", "compile", "globals", "locals", "vars", "id", "hash", "breakpoint"}

LIFT = ((1, 4, 2, 3, 0, 5), (1, 1, 3, 2, 1, 1), False)
BENT = ((1, 4, 2, 3, 0, 5), (1, 1, 3, 2, 1, 2), True)
ROW = (0, 3, 3, 1, 2, 2)
LOT = (0, 2, 7, 8, 9, 10, 11, 17, 20)
HARD = (3, 7, 8, 9, 14, 20)
FIVE = (1, 2, 4, 8, 16)
EIGHT = EIGHTS[300]
ONE = mendings_of((0, 5, 11, 18))
OTHER = mendings_of((5, 6, 11, 20))
THREE = (EIGHTS[0], tuple(range(8, 16)), tuple(range(16, 24)))
FAR_THREE = ((0, 1, 5, 7, 8, 11, 17, 18), (2, 3, 4, 6, 12, 15, 21, 22), (9, 10, 13, 14, 16, 19, 20, 23))
SEVEN, FAR_SEVEN = (0, 1, 2, 3, 4, 5, 8), (3, 2, 1, 0, 4, 7, 22)
STILL = ((0, 0), (1, 1), (2, 2), (3, 3), (4, 4))
BARRED = STILL + ((5, 8),)
SEVENTH, BEND = (2, 3, 8, 11, 13, 17, 20), (0, 1, 5, 10, 12, 19, 22)
DOZEN = (0, 1, 3, 4, 5, 7, 8, 9, 10, 15, 17, 21)
OTHER_DOZEN = (6, 7, 9, 10, 12, 14, 18, 19, 20, 21, 22, 23)
EVEN = ((0, 6), (1, 18), (3, 22), (4, 7), (5, 14), (7, 10), (8, 12), (9, 19), (10, 20), (15, 23), (17, 21), (21, 9))
UNEVEN = EVEN[:10] + ((17, 9), (21, 21))
SIX = (4, 7, 9, 10, 17, 21)
NUMBERS = (0, 1, 3, 4, 5, 15, 17, 21, 10, 8, 9, 7)
LOST, WON = (0, 1, 3, 5, 7, 9), (0, 1, 3, 5, 8, 9)
PAIR_LONG, EIGHT_LONG, ODD_LONG = (4, -4) + (0,) * 22, (2,) * 8 + (0,) * 16, (-3,) + (1,) * 23
AXIS = (8,) + (0,) * 23
FRAME = tuple(tuple(8 * (own == lamp) * sign for own in LAMPS) for sign, lamps in ((-1, LAMPS), (1, LAMPS[::-1])) for lamp in lamps)
MOVES = (("signs", EIGHTS[0]), ("over", ONE, 5), ("shuffle", MIXED))
GAME = (0, 3, 9, 14)
HEARD = ((1, 5, 6, 18), (0, 4, 8, 12, 13, 14, 15, 16, 19, 20))
CLAIMS = (("alike", SEVENTH, BEND), ("alike", SEVENTH, LOT), ("carried", STILL), ("carried", BARRED), ("keeping", MIXED),
          ("keeping", SWAP), ("reach", (SPIN, LIFT_SHUFFLE), 0, 3), ("reach", (SWAP,), 1, 2), ("filled", FIVE, LAMPS[8:]),
          ("filled", FIVE, (0, 5, 10)), ("mended", HARD, 4), ("mended", HARD, 3), ("lost", LOST), ("lost", WON),
          ("twice", AXIS, FRAME[3]), ("twice", AXIS, ODD_LONG), ("bold", LOT), ("alike", LOT), (), ("reach", (), 24, 0),
          ("lost", LOT), ("carried", (3,)), ("twice", LOT, AXIS), (3, LOT))
BOARD = "\n *.....\n .*..*.\n ..*...\n ..*..."
GOALS = "\n 0 4 8 12 16 20\n 2 6 10 14 18 22\n 3 7 11 15 19 23\n 1 5 9 13 17 21"
ROWS = "\n 4 0 0 0 0 0\n 0 0 0 0 0 4\n 0 0 0 0 0 0\n 0 0 0 0 0 0"
LEAD = "lead\n shuffle" + GOALS.replace("\n", "\n ")
SCENE = (HARD, MIXED)
WORKED = (SCENE, (("turn", ((), LAMPS)), ("lead", (LOT, LAMPS))), (("home", (EIGHT, SPIN)),))
MOVED = LAMPS[4:8] + LAMPS[:4] + LAMPS[12:16] + LAMPS[8:12] + LAMPS[20:] + LAMPS[16:20]

# Calls of every function of the interface, also ones that raise.
CALLS = {
    "sign_sum": [((1, 2, 3, 3),), ((),)], "sign_product": [(2, 3)], "sign_quotient": [(1, 3), (1, 0)],
    "is_word": [(WORDS[5],), ([1, 1, 1, 1, 0, 0],)], "is_shift": [(LIFT,), (BENT,), ([],)], "all_words": [()],
    "word_number": [(WORDS[9],)], "word_at": [(17,), (64,)],
    "word_by": [((0, 2, 5), (3, 1, 2)), ((0, 2, 2), (3, 1, 2))],
    "words_with": [(((1, 2), (3, 0)),), ((),)], "unlike_places": [(ROW, WORDS[9])],
    "nearest_words": [(ROW,), (WORDS[3],)], "shifted": [(LIFT, ROW), (BENT, WORDS[7])],
    "shift_behind": [(LIFT, BENT), (BENT, LIFT)], "shift_back": [(LIFT,), (BENT,)],
    "is_true_shift": [(LIFT,), (BENT,)], "word_led_out": [(LIFT,), (BENT,)],
    "is_word_led_out": [(LIFT, WORDS[2]), (BENT, WORDS[2]), (BENT, [0, 0])],
    "lamp_at": [(3, 2)], "column_of": [(17,), (24,)], "line_of": [(17,), (-1,)],
    "lot_sum": [((LOT, HARD, FIVE),), ((),)], "column_lamps": [(LOT, 2)], "column_signs": [(LOT,)],
    "parities": [(LOT,)], "column_ways": [(2, 1)], "lots_with": [(ROW, 1)], "drawn": [(LOT,)],
    "read_drawn": [(("#.#..#", "..#.#.", "#.#...", ".##..."),), (("#.#..#", "x"),)],
    "board_shuffle": [(LIFT, ROW), (BENT, ROW)], "board_parts": [(MOVED,), (LAMPS[1:] + (0,),)],
    "is_right": [(EIGHT,), (LOT,)], "heads": [()], "base_lots": [()], "right_at": [(769,), (4096,)],
    "right_number": [(EIGHT,), (LOT,)], "rights_of": [(8,), (7,)],
    "all_eights": [()], "is_eight": [(EIGHT,), (list(EIGHT),)], "eight_number": [(EIGHT,)],
    "eight_at": [(300,), (759,)], "eight_of": [(FIVE,), (LOT,)], "eights_with": [((0, 5, 9), (1, 2, 3))],
    "how_many_with": [((0, 5, 9), (1, 2, 3))], "shared_lamps": [(EIGHT, EIGHTS[2])], "counts": [(LOT,)],
    "fullest": [(LOT,)], "is_met_evenly": [(EIGHT,), (LOT,)], "odd_eight": [(LOT,), (EIGHT,)],
    "is_odd_eight": [(LOT, EIGHT), (LOT, [[]])],
    "how_far": [(HARD,), (FIVE,)], "is_hard": [(HARD,), (FIVE,)], "mendings": [(HARD,), (FIVE,)],
    "mending": [(HARD,), (FIVE,)], "is_mending": [(HARD, (3, 4, 12, 23)), (HARD, [3, 4, 12, 23])],
    "nearest": [(HARD,), (FIVE,)], "mending_with": [(HARD, 21), (FIVE, 5), (FIVE, 24)],
    "mending_fours": [(HARD,), (FIVE,)], "rest_of": [(HARD,), (FIVE,)], "same_rest": [(FIVE, (3, 12, 20))],
    "rests": [(2,), (5,)], "filled": [((4, 5, 6), (7, 20, 21, 22, 23)), (FIVE, (0, 5, 10)), (HARD, LAMPS)],
    "is_filled": [((4, 5, 6), (7, 20, 21, 22, 23), (4, 5, 6, 7, 20, 21, 22, 23)), (FIVE, (), [()])],
    "fill_bar": [(FIVE, (0, 5, 10)), ((), ())],
    "is_fill_bar": [(FIVE, (0, 5, 10), (4, 6, 8, 9, 12, 15, 16, 18)), (FIVE, (), [()])],
    "is_fours": [(ONE,), (list(ONE),)], "fours_of": [((0, 5, 11, 18),), (FIVE,)], "many_fours": [()],
    "fours_by_number": [(700,), (-1,)], "number_of_fours": [(ONE,)], "lot_with": [(ONE, 13), (ONE, 24)],
    "in_one": [(ONE, 8, 21), (ONE, 8, -1), (ONE, 24, -1)], "eights_of_fours": [(ONE,)], "fours_in": [(EIGHT,)],
    "shared": [(ONE, LOT)], "shared_table": [(ONE, OTHER)], "meeting": [(ONE, OTHER)], "refined": [(ONE, OTHER)],
    "is_three": [(THREE,), (list(THREE),)], "three_of": [(THREE[2], THREE[0]), (EIGHT, EIGHT)], "beside": [(EIGHT,)],
    "threes_with": [(EIGHT,)], "many_threes": [()], "three_by_number": [(1000,), (-1,)], "number_of_three": [(THREE,)],
    "eight_with": [(THREE, 9), (THREE, 24)], "fours_of_three": [(THREE,)], "threes_of_fours": [(ONE,)],
    "three_table": [(THREE, FAR_THREE)], "fours_of_both": [(THREE, FAR_THREE), (THREE, THREE)],
    "is_shuffle": [(MOVED,), (list(MOVED),)], "led_lot": [(MIXED, LOT)], "behind": [(MIXED, SPIN)],
    "shuffle_back": [(MIXED,)], "powered": [(MIXED, 5), (MIXED, -10 ** 30)], "rounds": [(MIXED,)],
    "times_home": [(MIXED,)], "is_keeping": [(MIXED,), (SWAP,)], "led_out": [(SWAP,), (SPIN,)],
    "is_led_out": [(SWAP, (0, 2, 3, 4, 8, 13, 19, 22)), (SWAP, [0, 2])], "right_part": [(SWAP,), (SPIN,)],
    "word_shuffle": [(WORDS[9],)], "by_steps": [((LIFT_SHUFFLE, SPIN), (1, -1, -2)), ((SPIN,), (1,)), ((), ())],
    "steps_back": [((0, 1, -2),)], "reached": [((LIFT_SHUFFLE, SPIN), 0), ((), 24)],
    "steps_to": [((LIFT_SHUFFLE, SPIN), 0, 3), ((LIFT_SHUFFLE, SPIN), 0, 4), ((), 3, 24)],
    "is_seven": [(SEVEN,), (list(SEVEN),)], "sevens_from": [((4, 0, 9, 23, 11),), ((0, 1),)],
    "by_seven": [(SEVEN, FAR_SEVEN), (SEVEN, SEVEN[1:])], "five_to_five": [((0, 5, 9, 14, 23), (3, 2, 1, 0, 4))],
    "all_five_to_five": [((0, 5, 9, 14, 23), (3, 2, 1, 0, 4)), ((0, 5, 9, 14, 24), (3, 2, 1, 0, 4))],
    "can_carry": [(STILL,), (BARRED,), (((0, 0), (1, 0)),)], "carried_on": [(STILL[:3],), (BARRED,)],
    "many_carried": [(STILL,), (BARRED,), ((),)], "all_carried": [(STILL,), (STILL[1:],), (BARRED,)],
    "next_places": [(STILL, 5), (STILL, 24), (STILL[1:], 7), ((0, 1), 24)], "told_ties": [(STILL + ((5, 5),),), (BARRED,)],
    "bar_for": [(BARRED,), (STILL,)], "is_bar_for": [(BARRED, ((LAMPS, 5),)), (BARRED, [()]), ((1,), ())],
    "how_many_shuffles": [()], "shuffle_number": [(MIXED,), (SWAP,)], "shuffle_at": [(100000,), (-1,)],
    "chain_step": [(3, 17), (3, 2), (24, 2)], "in_steps": [(MIXED,), (SWAP,)],
    "kind_of": [(LOT,), ((1, 0),)], "are_like": [(SEVENTH, BEND), (SEVENTH, LOT), ((1, 0), LOT)],
    "led_to": [(SEVENTH, BEND), (SEVENTH, LOT)], "is_led_to": [(SEVENTH, SEVENTH, LAMPS), (SEVENTH, BEND, [()])],
    "unlike_paper": [(SEVENTH, LOT), (SEVENTH, BEND)], "is_unlike_paper": [(SEVENTH, LOT, ((7, ()), (9, ())))],
    "case_of": [(SEVENTH, BEND), (SEVENTH, LOT)], "is_case_of": [(SEVENTH, SEVENTH, ("led", LAMPS)), (LOT, LOT, [])],
    "led_with": [(SEVENTH, BEND, ((17, 1),)), (SEVENTH, BEND, ((2, 1),)), (SEVENTH, BEND, (3,))],
    "how_many_keep": [(SEVENTH,), ((24,),)], "how_many_like": [(LOT,), ((24,),)], "alike_lamps": [(SEVENTH,), ((24,),)],
    "keeps_and_leads": [(SEVENTH, 2, 20), (SEVENTH, 17, 2), (SEVENTH, 24, 2)],
    "is_keeps_and_leads": [(SEVENTH, 2, 2, LAMPS), (SEVENTH, 2, 20, [LAMPS])], "with_one_turned": [(FIVE,), ((24,),)],
    "is_dozen": [(DOZEN,), (list(DOZEN),)], "other_dozen": [(DOZEN,), (LOT,)], "sixes": [(DOZEN,), (LOT,)],
    "is_six": [(DOZEN, SIX), (DOZEN, list(SIX)), (LOT, SIX)], "sixes_with": [(DOZEN, (4, 9)), (DOZEN, (2,))],
    "six_of_five": [(DOZEN, (10, 9, 17, 21, 4)), (DOZEN, (10, 9, 17, 21, 2))], "eight_of_six": [(DOZEN, SIX), (DOZEN, LOT)],
    "pair_of_six": [(DOZEN, SIX), (DOZEN, LOT)], "sixes_of_pair": [(DOZEN, (19, 20)), (DOZEN, (0, 1))],
    "led_dozen": [(DOZEN, OTHER_DOZEN, (10, 9, 17, 21, 4), (20, 19, 21, 9, 7)), (DOZEN, DOZEN, DOZEN[:5], DOZEN)],
    "is_even_map": [(DOZEN, OTHER_DOZEN, EVEN), (DOZEN, OTHER_DOZEN, [list(own) for own in EVEN])],
    "lost_six": [(DOZEN, OTHER_DOZEN, UNEVEN), (DOZEN, OTHER_DOZEN, EVEN), (DOZEN, DOZEN, EVEN)],
    "is_lost_six": [(DOZEN, OTHER_DOZEN, UNEVEN, (0, 1, 3, 4, 8, 17)), (DOZEN, OTHER_DOZEN, UNEVEN, [SIX])],
    "dozen_shuffle": [(DOZEN, OTHER_DOZEN, EVEN), (DOZEN, OTHER_DOZEN, UNEVEN), (DOZEN, DOZEN, EVEN)],
    "is_standing": [(LOST,), (list(LOST),)], "moved": [(WON, 9, 4), (WON, 9, 8)], "moves": [(WON,), (LOT,)],
    "is_lost": [(LOST,), (WON,)], "good_moves": [(LOST,), (WON,)], "lost_with": [(24,), (22,), (None,)],
    "lost_of_five": [((0, 1, 2, 4, 7),), ((0, 1, 2, 4),)], "lost_paper": [(LOST,), (WON,), (LOT,)],
    "is_lost_paper": [((0, 1, 2, 3, 4, 11), ()), (LOST, [()]), (LOT, ())],
    "numbering": [(DOZEN, (0, 1, 3, 4, 5)), (DOZEN, (0, 1, 2, 3, 4))], "is_numbering": [(DOZEN, NUMBERS), (DOZEN, list(NUMBERS))],
    "lamps_of_cards": [(NUMBERS, LOST), (NUMBERS, LOT), (DOZEN, LOST)],
    "cards_of_lamps": [(NUMBERS, SIX), (NUMBERS, (2,)), (NUMBERS, ())],
    "is_long": [(ODD_LONG,), (list(ODD_LONG),)], "odd_lot": [(EIGHT_LONG,), ((1,) + ODD_LONG[1:],), ((2,) + ODD_LONG[1:],)],
    "rule_broken": [((1,) * 24,), ((2, 1) + (0,) * 22,), ((2,) * 4 + (0,) * 20,), (ODD_LONG,), ((),)],
    "is_rule_broken": [((1,) * 24, ("sum", 4)), (ODD_LONG, ["sum", 4])], "long_length": [(ODD_LONG,), ((1,) * 24,)],
    "long_product": [(PAIR_LONG, ODD_LONG), (PAIR_LONG, (1,) * 24)], "long_sum": [(PAIR_LONG, ODD_LONG), ((), ODD_LONG)],
    "long_contrary": [(PAIR_LONG,), ((1,) * 24,)], "signs_turned": [(ODD_LONG, EIGHT), (ODD_LONG, LOT)],
    "half_long": [((8, -8) + (0,) * 22,), (EIGHT_LONG,)], "shape_of": [(PAIR_LONG,), ((8,) + (0,) * 23,)],
    "short_number": [(ODD_LONG,), ((8,) + (0,) * 23,)], "short_at": [(2,), (50000,), (196559,), (196560,)],
    "alike_by_twice": [(PAIR_LONG, ODD_LONG), (AXIS, FRAME[0]), (AXIS, (1,) * 24)],
    "half_difference": [(AXIS, FRAME[5]), (AXIS, ODD_LONG), ((1,) * 24, AXIS)],
    "parting_rule": [(AXIS, ODD_LONG), (EIGHT_LONG, AXIS), (AXIS, FRAME[3]), (AXIS, ())],
    "is_parting_rule": [(AXIS, ODD_LONG, ("half", 0)), (AXIS, FRAME[3], [()]), (AXIS, (), None)],
    "rest_kind": [(AXIS,), (ODD_LONG,), (LOT,)], "shortest": [(FRAME[7],), ((12, 4) + (0,) * 22,), (LOT,)],
    "is_shortest": [(AXIS, FRAME[3]), (AXIS, list(AXIS)), (LOT, AXIS)], "all_shortest": [(AXIS,), (ODD_LONG,), (LOT,)],
    "frame_of": [(FRAME[30],), (ODD_LONG,), (LOT,)], "is_frame": [(FRAME,), (list(FRAME),), ([list(own) for own in FRAME],)],
    "frame_products": [(FRAME, ODD_LONG), (FRAME[1:], ODD_LONG), (FRAME, LOT)],
    "long_by_frame": [(FRAME, EIGHT_LONG), (FRAME, (1,) * 24), (FRAME, LOT), (FRAME[1:], LOT)],
    "turned_over": [(ODD_LONG, ONE, 4), (ODD_LONG, ONE, 6), (ODD_LONG, LOT, 0), (LOT, ONE, 0)],
    "is_move": [(MOVES[1],), (list(MOVES[1]),), (("over", [list(own) for own in ONE], 5),)],
    "long_moved": [(ODD_LONG, MOVES), (ODD_LONG, ()), (ODD_LONG, MOVES[0]), (LOT, MOVES)],
    "moved_back": [(MOVES,), ((),), ((MOVES,),)], "way_between": [(PAIR_LONG, ODD_LONG), (EIGHT_LONG, PAIR_LONG), (AXIS, AXIS)],
    "is_way_between": [(ODD_LONG, ODD_LONG, ()), (AXIS, AXIS, [()]), (AXIS, LOT, ())],
    "signs_between": [(EIGHT_LONG, (-2,) * 8 + (0,) * 16), (PAIR_LONG, ODD_LONG), (LOT, AXIS)],
    "pair_kind": [(PAIR_LONG, ODD_LONG), (AXIS, LOT)], "triangle_of": [(PAIR_LONG,), (ODD_LONG,), (AXIS,), (LOT,)],
    "is_triangle": [((PAIR_LONG, ODD_LONG, AXIS),), ([PAIR_LONG, ODD_LONG, AXIS],)],
    "lamp_worth": [(13,), (24,)], "lot_worth": [(GAME,), ((24,),)], "is_turn": [(GAME, (2, 9)), (GAME, [14]), ((1, 0), ())],
    "winning_turn": [(GAME,), (LAMPS[:8],), ((24,),)], "is_winning_turn": [(GAME, GAME), (GAME, list(GAME)), ((1, 0), ())],
    "lost_by_number": [(5,), (4095,), (4096,)], "number_of_lost": [((2, 3, 6, 7, 8, 9, 12, 13),), (GAME,), ((1, 0),)],
    "is_round_lot": [(LAMPS,), (GAME,), ((1, 0),)], "shuffle_to_board": [("game",), ("round",), ("board",)],
    "is_shuffle_to_board": [("game", LAMPS[:16] + LAMPS[:15:-1]), ("round", [LAMPS]), (("game",), LAMPS)],
    "is_heard": [(HEARD,), ([LOT, FIVE],)], "heard_of": [(LOT, FIVE), (LAMPS, LAMPS)], "fitting": [(HEARD,), ((FIVE, ()),)],
    "sure_lamps": [(HEARD,), (((), LAMPS[:16]),), ((FIVE, ()),)], "next_lamp": [(HEARD,), ((EIGHT, ()),), ((FIVE, ()),)],
    "told_on": [(HEARD, 0, True), (HEARD, 12, False), (HEARD, 1, True), (HEARD, 24, True)],
    "right_within": [(HEARD[1],), (LAMPS,), (FIVE,)], "is_claim": [(own,) for own in CLAIMS] + [(list(CLAIMS[0]),)],
    "is_so": [(own,) for own in CLAIMS], "paper": [(own,) for own in CLAIMS],
    "is_paper": [(own, LAMPS) for own in CLAIMS] + [(CLAIMS[4], [()])],
    "shows": [(own, LAMPS) for own in CLAIMS] + [(own, [FIVE]) for own in CLAIMS],
    "not_so": [(CLAIMS[:6],), (CLAIMS[6:12],), (CLAIMS[10:16],), (CLAIMS[12:18],), ((),)],
    "words_so": [(CLAIMS[:6],), (CLAIMS[6:12],), (CLAIMS[10:16],), (CLAIMS[15:21],), ((),)],
    "lot_text": [(LOT,), ((),)], "shuffle_text": [(MIXED,)], "long_text": [(ODD_LONG,)],
    "read_lot": [("lot" + BOARD,), ("lot" + GOALS,), ("",)], "read_shuffle": [("shuffle" + GOALS,), ("shuffle" + ROWS,)],
    "read_long": [("long" + ROWS,), ("long" + GOALS,), ("long" + ROWS + "\n",), ("long",)],
    "first_desk": [()], "is_request": [("turn 1 2",), ("turn 2 1",), ("lot\n x",), (["mend"],)],
    "requests": [("turn 1\nmend\nlot\n x\nshow",), ("",), ("turn 1\n\nmend",), (" x",)],
    "scene_after": [(SCENE, own) for own in ("turn 1 2", "eight 0 1 2 3 4", "mend", "home", LEAD, "lot\n x", "show", "")],
    "said": [(SCENE, own) for own in ("show", "led", "right", "mends", "counts", "worth", "like\n lot", "mend", "")],
    "worked": [(WORKED, own) for own in ("undo", "redo", "mend", "turn 3", "home", LEAD, "show", "lot\n x", "look")],
    "session": [(WORKED, "undo\nundo\nundo\nredo\nturn 5\nshow\nredo"), (WORKED, "turn 1\nlook"), (WORKED, "")],
}
LISTS = """all_words words_with nearest_words column_ways lots_with rights_of all_eights eights_with fullest mendings
    nearest rests fours_in threes_with fours_of_three threes_of_fours fours_of_both sevens_from all_five_to_five
    all_carried sixes sixes_with sixes_of_pair moves good_moves lost_with all_shortest fitting requests""".split()


def all_functions():
    """Triples (module, name, parameters) of the interface."""
    found = []
    for module, text in INTERFACE.items():
        for part in text.replace(")", ")|").split("|"):
            if part.strip():
                name, parameters = part.strip().rstrip(")").split("(")
                found.append((module, name, [own.strip() for own in parameters.split(",") if own.strip()]))
    return found


def outcome(function, arguments, named):
    """What a call gives: what it returns, or its error with the values that it keeps."""
    try:
        return ("returned", function(*arguments, **named))
    except (LookupError, ValueError) as error:
        return (type(error).__module__, type(error).__name__, vars(error))


def all_calls():
    """Triples (function, parameters, arguments), for all of CALLS."""
    for module, name, parameters in all_functions():
        function = getattr(importlib.import_module("eightlots." + module), name)
        for arguments in CALLS[name]:
            yield function, parameters, arguments


def has_list(value):
    """Whether a list stands in value."""
    if isinstance(value, (tuple, dict)):
        return any(has_list(own) for own in (value.values() if isinstance(value, dict) else value))
    return isinstance(value, list)


class Interface(Case):

    def test_names_and_parameters(self):
        for module, name, parameters in all_functions():
            function = getattr(importlib.import_module("eightlots." + module), name)
            self.assertEqual(list(inspect.signature(function).parameters), parameters, name)
            self.assertEqual(function.__module__, "eightlots." + module)

    def test_each_is_defined_in_its_file(self):
        for module, name, _ in all_functions():
            tree = ast.parse((FOLDER / f"{module}.py").read_text())
            self.assertIn(name, [own.name for own in tree.body if isinstance(own, ast.FunctionDef)])

    def test_each_is_called_here(self):
        self.assertEqual(sorted(CALLS), sorted(name for _, name, _ in all_functions()))

    def test_a_file_draws_from_those_ahead_alone(self):
        drawn = {}
        for path in FOLDER.glob("*.py"):
            tree = ast.parse(path.read_text())
            self.assertFalse([own for own in ast.walk(tree) if isinstance(own, ast.Import)], path)
            drawn[path.stem] = [own.module for own in ast.walk(tree) if isinstance(own, ast.ImportFrom)]
        for name in ORDER:
            left, seen = [name], set()
            while left:
                for module in drawn[left.pop()]:
                    own = module.split(".")[-1]
                    if module.startswith("eightlots.") and own not in seen:
                        seen.add(own)
                        left.append(own)
            self.assertFalse(seen & set(ORDER[ORDER.index(name):]), name)

    def test_no_clock_no_chance_no_files(self):
        for path in FOLDER.glob("*.py"):
            for own in ast.walk(ast.parse(path.read_text())):
                if isinstance(own, ast.ImportFrom):
                    self.assertTrue(own.module.startswith("eightlots.") or own.module in LIBRARY, path)
                    self.assertEqual(own.level, 0)
                if isinstance(own, ast.Name):
                    self.assertNotIn(own.id, OUTSIDE, path)
                    self.assertFalse(own.id.startswith("__"), path)

    def test_the_folder_has_the_package_alone(self):
        for path in FOLDER.iterdir():
            if path.name != "__pycache__":
                self.assertTrue(path.is_file() and path.suffix == ".py", path)


class General(Case):

    def test_by_names_and_again(self):
        for function, parameters, arguments in all_calls():
            first = outcome(function, arguments, {})
            self.assertIn(first[0], ("returned", "eightlots.errors"))
            self.assert_same(outcome(function, (), dict(zip(parameters, arguments))), first, function)
            self.assert_same(outcome(function, arguments, {}), first, function)

    def test_lists_for_tuples(self):
        for function, parameters, arguments in all_calls():
            first = outcome(function, arguments, {})
            listed = [own if name == "thing" else deep_lists(own) for name, own in zip(parameters, arguments)]
            self.assert_same(outcome(function, listed, {}), first, function)
            for place, name in enumerate(parameters):
                mixed = list(arguments)
                if isinstance(mixed[place], tuple) and name != "thing":
                    mixed[place] = list(mixed[place])
                self.assert_same(outcome(function, mixed, {}), first, function)

    def test_arguments_are_unchanged(self):
        for function, parameters, arguments in all_calls():
            listed = [copy.deepcopy(own) if name == "thing" else deep_lists(own)
                      for name, own in zip(parameters, arguments)]
            kept = copy.deepcopy(listed)
            outcome(function, listed, {})
            self.assert_same(listed, kept, function)

    def test_what_is_returned_is_made_of_tuples(self):
        for function, parameters, arguments in all_calls():
            for own in (arguments, [deep_lists(own) for own in arguments]):
                if "thing" in parameters:
                    continue
                found = outcome(function, own, {})
                if found[0] == "returned" and isinstance(found[1], list):
                    self.assertIn(function.__name__, LISTS)
                    self.assertFalse(any(has_list(part) for part in found[1]), function)
                else:
                    self.assertFalse(has_list(found), function)
                    self.assertFalse(found[0] == "returned" and function.__name__ in LISTS, function)

    def test_a_returned_list_is_new_and_the_callers(self):
        for function, _, arguments in all_calls():
            if function.__name__ in LISTS:
                found = outcome(function, arguments, {})
                if found[0] == "returned":
                    before = copy.deepcopy(found[1])
                    found[1].reverse()
                    found[1].append("more")
                    self.assertTrue(same(function(*arguments), before), function)
                    found[1].clear()
                    self.assertTrue(same(function(*arguments), before), function)

    def test_a_list_handed_in_and_changed_behind(self):
        for function, parameters, arguments in all_calls():
            if "thing" in parameters:
                continue
            listed = [deep_lists(own) for own in arguments]
            found = outcome(function, listed, {})
            before = copy.deepcopy(found)
            for own in listed:
                if isinstance(own, list):
                    own.clear()
            self.assert_same(found, before, function)


if __name__ == "__main__":
    unittest.main()
