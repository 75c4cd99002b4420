"""The examples of the document, as they are written there."""

import importlib
import unittest

from tests.helper import Case

MODULES = ("errors", "signs", "board", "rightlots", "eights", "mending", "fours")

# [4]
SIGNS = r"""
>>> sign_sum((1, 2, 2, 3)), sign_sum(()), sign_product(2, 3), sign_quotient(1, 3), sign_quotient(0, 2)
(2, 0, 1, 2, 0)
>>> word = word_by((0, 2, 5), (3, 1, 2))
>>> word, word_at(word_number(word)) == word, is_word(list(word)), is_word((1, 1, 1, 1, 1, 2))
((3, 3, 1, 1, 2, 2), True, False, False)
>>> words_with(((1, 2), (3, 0))), words_with(((0, 1), (1, 1), (2, 1), (3, 2)))
([(0, 2, 2, 0, 1, 3), (1, 2, 3, 0, 3, 0), (2, 2, 0, 0, 2, 2), (3, 2, 1, 0, 0, 1)], [])
>>> far = (0, 3, 3, 1, 2, 2)
>>> nearest_words(far), nearest_words((3, 0, 1, 1, 2, 2)) == [word], unlike_places(far, word)
([(0, 2, 3, 1, 0, 2), (0, 3, 3, 0, 2, 1), (3, 3, 1, 1, 2, 2)], True, (0, 2))
>>> shift, odd = ((1, 4, 2, 3, 0, 5), (1, 1, 3, 2, 1, 1), False), ((1, 4, 2, 3, 0, 5), (1, 1, 3, 2, 1, 2), False)
>>> is_true_shift(shift), shifted(shift, word), shifted(odd, word), is_word_led_out(odd, word), is_word_led_out(odd, word_led_out(odd))
(True, (2, 3, 3, 2, 3, 2), (2, 3, 3, 2, 3, 3), True, True)
>>> turn = ((0, 1, 2, 5, 4, 3), (1, 3, 2, 2, 2, 2), True)
>>> shifted(turn, word), shift_behind(turn, shift), shift_back(turn) == turn, is_true_shift(turn)
((2, 1, 2, 1, 1, 2), ((1, 4, 2, 5, 0, 3), (3, 2, 3, 1, 1, 2), True), True, True)
>>> sign_quotient(2, 0)
raises Unfit()
>>> word_led_out(shift)
raises NoPaper()
"""

# [5]
BOARD = r"""
>>> lot = (0, 2, 7, 8, 9, 10, 11, 17, 20)
>>> [(column_of(own), line_of(own)) for own in (0, 7, 22)], lamp_at(5, 2), column_lamps(lot, 2)
([(0, 0), (1, 3), (5, 2)], 22, (8, 9, 10, 11))
>>> lot_sum((lot, (0, 1, 7), (1, 23))), column_signs(lot), parities(lot)
((2, 8, 9, 10, 11, 17, 20, 23), (2, 3, 0, 0, 1, 0), (0, 1, 0, 0, 1, 1, 1))
>>> drawn(lot), read_drawn(drawn(lot)) == lot
(('#.#..#', '..#.#.', '#.#...', '.##...'), True)
>>> column_ways(0, 0), column_ways(3, 0), column_ways(2, 1)
([(), (0, 1, 2, 3)], [(0, 3), (1, 2)], [(0, 1, 3), (2,)])
>>> own = lots_with(word, 1)[0]
>>> own, column_signs(own) == word, parities(own)
((0, 1, 2, 4, 5, 6, 8, 10, 11, 12, 14, 15, 16, 17, 19, 20, 21, 23), True, (1, 1, 1, 1, 1, 1, 0))
>>> board_shuffle(shift, word)
(7, 6, 5, 4, 18, 19, 16, 17, 9, 10, 8, 11, 13, 15, 14, 12, 3, 2, 1, 0, 22, 23, 20, 21)
>>> board_parts(board_shuffle(shift, word)) == (shift, word), board_shuffle(turn, (0,) * 6)[:8], board_parts(board_shuffle(odd, far))[1]
(True, (0, 1, 3, 2, 4, 7, 6, 5), (0, 3, 3, 1, 2, 2))
>>> column_of(24)
raises NoLamp(lamp=24)
>>> read_drawn(("#.....", "......", "....", "......"))
raises BadLine(number=2)
"""

# [6]
RIGHTLOTS = r"""
>>> one, other = (0, 7, 9, 10, 11, 15, 17, 22), (3, 6, 9, 13, 14, 15, 16, 21)
>>> is_right(one), is_right(one[1:]), is_right(()), is_right(lot_sum((one, other)))
(True, False, True, True)
>>> heads()[7:9], base_lots()[0], right_at(5), right_number(one), right_at(right_number(other)) == other
((8, 9), (0, 7, 11, 13, 14, 15, 18, 21), (0, 2, 13, 15, 18, 19, 20, 23), 769, True)
>>> rights_of(0), rights_of(7), one in rights_of(8), is_right((0, 4))
([()], [], True, False)
>>> right_at(-1)
raises NoNumber(number=-1)
>>> right_number((0, 4))
raises Unfit()
"""

# [7]
EIGHTS = r"""
>>> five, some = (0, 5, 9, 14, 23), (1, 2, 4, 8, 16, 17)
>>> eight_of(five), eight_number(eight_of(five)), eight_at(300)
((0, 4, 5, 6, 9, 14, 16, 23), 174, (1, 2, 9, 10, 18, 19, 21, 23))
>>> eights_with(five[:4], (1, 2, 3)), how_many_with(five, (4,))
([(0, 4, 5, 6, 9, 14, 16, 23), (0, 5, 8, 9, 10, 14, 17, 20), (0, 5, 9, 13, 14, 15, 19, 22)], 0)
>>> shared_lamps(eight_of(five), eight_at(300)), len(fullest(some)), fullest(some)[5], sum(counts(some)) == len(all_eights())
((9, 23), 6, (1, 4, 8, 13, 16, 17, 18, 22), True)
>>> is_met_evenly((3, 7, 11)), is_odd_eight((3, 7, 11), (0, 1, 2, 3, 12, 13, 14, 15)), is_odd_eight((3, 7, 11), odd_eight((3, 7, 11)))
(False, True, True)
>>> is_met_evenly(eight_at(300)), is_eight((0, 1, 2, 3, 4, 5, 6, 8)), is_eight(list(eight_at(0)))
(True, False, False)
>>> eight_of((0, 5))
raises Unfit()
>>> odd_eight(())
raises NoPaper()
"""

# [8]
MENDING = r"""
>>> five, rough = (1, 2, 4, 8, 16), (3, 7, 8, 9, 14, 20)
>>> mendings(five), how_far(rough), mendings(rough)[:2], is_hard(rough), is_hard(five)
([(3, 12, 20)], 4, [(0, 2, 9, 18), (1, 7, 13, 22)], True, False)
>>> nearest(five), nearest(rough)[0], mending_with(rough, 21), rest_of(rough), rest_of(five)
([(1, 2, 3, 4, 8, 12, 16, 20)], (0, 2, 3, 7, 8, 14, 18, 20), (11, 17, 20, 21), (0, 2, 9, 18), (3, 12, 20))
>>> mending((4, 5, 6, 7, 20, 21, 22, 23)), [is_mending(rough, own) for own in ((3, 4, 12, 23), (3, 4, 12), [3, 4, 12, 23])], mending_fours(rough)[5]
((), [True, False, False], (11, 17, 20, 21))
>>> same_rest(five, (3, 12, 20)), same_rest(five, rough), rests(0), rests(1)[:2]
(True, False, [()], [(0,), (1,)])
>>> filled((4, 5, 6), (7, 20, 21, 22, 23)), is_filled((0, 1, 2, 3), (8, 9, 10, 11, 12, 13), (0, 1, 2, 3, 8, 9, 10, 11))
((4, 5, 6, 7, 20, 21, 22, 23), True)
>>> [is_fill_bar(five, (0, 5, 10), own) for own in ((4, 6, 8, 9, 12, 15, 16, 18), (0, 1, 2, 3, 4, 5, 6, 7), ())]
[True, False, False]
>>> filled(five, (0, 5, 10))
raises NoWay()
>>> mending_with(five, 5)
raises NoWay()
>>> rests(5)
raises NoNumber(number=5)
"""

# [9]
FOURS = r"""
>>> one, other = fours_of((0, 5, 11, 18)), fours_of((5, 6, 11, 20))
>>> one
((0, 5, 11, 18), (1, 7, 8, 17), (2, 3, 15, 22), (4, 6, 12, 21), (9, 10, 13, 23), (14, 16, 19, 20))
>>> other == fours_of((10, 12, 14, 23)), lot_with(other, 13), in_one(other, 8, 21), in_one(one, 8, 21)
(True, (2, 7, 13, 18), True, False)
>>> number_of_fours(one), fours_by_number(700)[0], fours_by_number(many_fours() - 1)[0]
(883, (0, 4, 9, 13), (0, 21, 22, 23))
>>> shared_table(one, other)[:4], meeting(one, other), meeting(one, one)
(((1, 1, 0, 2, 0, 0), (1, 1, 0, 0, 2, 0), (1, 1, 2, 0, 0, 0), (0, 0, 1, 1, 1, 1)), (0, 1, 2), (0, 4))
>>> refined(one, other)[:4], refined(one, one) == one, shared(one, (0, 1, 2, 3, 4))
(((0,), (1,), (2,), (3, 15)), True, (1, 1, 2, 1, 0, 0))
>>> eight = (0, 2, 3, 5, 11, 15, 18, 22)
>>> eights_of_fours(one)[0], eight in eights_of_fours(one), shared(other, eight), fours_in(eight)[26] == one
((0, 1, 5, 7, 8, 11, 17, 18), True, (2, 2, 2, 2, 0, 0), True)
>>> is_fours(one), is_fours(one[1:] + one[:1]), is_fours(list(one)), is_fours(((0, 1, 2, 4), (3, 5, 6, 7)) + one[2:])
(True, False, False, False)
>>> fours_of((0, 5, 11))
raises Unfit()
>>> lot_with(one, 24)
raises NoLamp(24)
>>> fours_by_number(-1)
raises NoNumber(-1)
"""


def names_of_package():
    """All names of the modules, as the examples use them."""
    names = {}
    for module in MODULES:
        names.update(vars(importlib.import_module("eightlots." + module)))
    return names


class Examples(Case):
    """Each example gives what stands below it; names are kept from section to section."""

    def setUp(self):
        self.names = names_of_package()
        self.run_many = 0

    def run_line(self, code, expected):
        """Run one example; expected is what stands below it, or None."""
        self.run_many += 1
        if expected is None:
            exec(code, self.names)
        elif expected.startswith("raises "):
            error = eval(expected[len("raises "):], self.names)
            self.assert_raises(type(error), vars(error), eval, code, self.names)
        else:
            self.assert_same(eval(code, self.names), eval(expected, self.names), code)

    def run_section(self, text):
        """Run all examples of one section."""
        lines = text.strip().split("\n")
        for place, line in enumerate(lines):
            if line.startswith(">>> "):
                below = lines[place + 1] if place + 1 < len(lines) else ">>> "
                self.run_line(line[4:], None if below.startswith(">>> ") else below)

    def test_all_sections_in_order(self):
        for text in (SIGNS, BOARD, RIGHTLOTS, EIGHTS, MENDING, FOURS):
            self.run_many = 0
            self.run_section(text)
            self.assertEqual(self.run_many, text.count(">>> "))


if __name__ == "__main__":
    unittest.main()
