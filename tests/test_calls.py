"""The calls as they are asked and answered in lists of whole numbers."""

import unittest

from apartpolynomials.polynomials import answers
from support import (
    ALL_THERE_IS, APART, COMMON, DISC, DIVIDE, EVERY_READER, IRREDUCIBLE, RATIONALS, RESULTANT, SQUAREFREE, SWAP, TIMES,
    ask, ask_last, circle, one, one_as_handed, told_of_both, two, two_as_handed, value,
)

EVERY_CALL = [
    [0, 6, 1, 2, 3, 4, 5, 6], [1, 3, 0, 7, 0], [2], [3], [4], [5], [6], [7], [8], [9], [10], [11, 12], [12, 5, 6], [13],
]
EVERY_REFUSAL = [
    [0, 7] + [61] * 7, [1, 1, 61], [11, 0], [11, 31], [12, 5, 0], [1, 0], [3], [13], [6], [7], [9], [10], [0, 1, 26],
    [7], [8], [9], [11, 7], [5], [6],
]


class Unchanging(list):
    """A list that can't be changed."""

    def changed(self, *given):
        raise AssertionError("a list that is handed in was changed")

    __setitem__ = __delitem__ = __iadd__ = __imul__ = changed
    append = extend = insert = pop = remove = clear = sort = reverse = changed


class TheInterface(unittest.TestCase):
    def test_each_answer_has_its_length_before_it(self):
        self.assertEqual(answers([2]), [3, 2, 0, 1])
        self.assertEqual(answers([0, 3, 2, 0, 4, 5, 6]), [4, 3, 1, 0, 2, 2, 0, 1, 2, 0, -8])

    def test_a_refusal_is_one_number_alone(self):
        self.assertEqual(answers([0, 1, 61]), [1, -1])
        self.assertEqual(answers([1, 0, 3, 2]), [1, 0, 1, -6, 1, 0])

    def test_an_empty_row_and_a_row_of_twenty_are_read_to_their_end(self):
        self.assertEqual(answers([0, 0, 1, 0, 4]), [1, 0, 1, 0, 1, 0])
        self.assertEqual(answers([0, 20] + [3] * 20 + [2]), [1, -1, 3, 2, 0, 1])
        self.assertEqual(answers([1, 20] + [4294967295] * 20 + [6]), [1, -1, 2, 0, 1])

    def test_what_is_handed_in_is_not_changed(self):
        for asked in (EVERY_CALL, EVERY_REFUSAL, [*EVERY_CALL, *reversed(EVERY_CALL)], *[[call] for call in EVERY_CALL]):
            calls = [number for call in asked for number in call]
            before = list(calls)
            given = answers(calls)
            self.assertEqual(calls, before)
            self.assertIsNot(given, calls)

    def test_what_is_handed_in_is_not_changed_for_a_while_either(self):
        for asked in (EVERY_CALL, EVERY_REFUSAL):
            calls = [number for call in asked for number in call]
            self.assertEqual(answers(Unchanging(calls)), answers(calls))

    def test_how_the_calls_stand_in_the_list(self):
        self.assertEqual(
            answers([0, 3, 1, 0, 2, 7, 8, 9, 10, 11, 3, 12, 3, 4, 13]),
            [
                4, 3, -1, 0, 1, 11, 0, 1, 2, 1, 2, -1, 1, 1, 2, 1, 1, 1, 0, 5, 2, -1, 1, 1, 1, 4, 3, -1, 0, 1,
                4, 3, 1, 1, 1, 2, 3, 4, 2, 1, 1,
            ],
        )

    def test_each_call_may_be_the_first(self):
        for call in EVERY_CALL:
            self.assertEqual(len(ask(call, SWAP)), 2)
        self.assertEqual(answers([11, 1]), [3, 2, -1, 1])
        self.assertEqual(answers([12, 6, 2]), [2, 3, 2])
        self.assertEqual(answers([13]), [2, 1, 1])

    def test_every_refusal_is_one_number_alone(self):
        single = ask(*EVERY_REFUSAL)
        self.assertEqual(single, [
            [-1], [-1], [-1], [-1], [-6], [0], [-6], [0], [-6], [-6], [-6], [-6], [1, 13],
            [-6], [-6], [-6], [7, 1, 1, 1, 1, 1, 1, 1], [-5], [-5],
        ])

    def test_what_is_given_back_is_not_kept(self):
        calls = [2, 3, 4, 5, 6]
        given = answers(calls)
        kept = list(given)
        given[1] = 99
        given.append(99)
        self.assertEqual(answers(calls), kept)

    def test_nothing_is_kept_from_one_time_to_the_next(self):
        fresh = ask(*ALL_THERE_IS)
        for before in ([one(1, 2, 3), two(4, 5)], [circle(12)], [SWAP], [circle(5), SWAP, circle(30)]):
            ask(*before)
            self.assertEqual(ask(*ALL_THERE_IS), fresh)

    def test_answers_are_plain_whole_numbers_in_a_list(self):
        for asked in (EVERY_CALL, EVERY_REFUSAL, ALL_THERE_IS, [one(0, -1, 0, 1), *ALL_THERE_IS]):
            given = answers([number for call in asked for number in call])
            self.assertIs(type(given), list)
            self.assertEqual({type(number) for number in given}, {int})

    def test_thirty_calls(self):
        calls = [two(30, -30, 30, -30, 30, -30), one(-30, 30, -30, 30, -30, 29)] + [RESULTANT] * 28
        given = ask(*calls)
        self.assertEqual(len(given), 30)
        self.assertEqual(given[2:], [given[2]] * 28)


class TheBeginning(unittest.TestCase):
    def test_x_and_1(self):
        self.assertEqual(ask(TIMES), [[2, 0, 1]])
        self.assertEqual(ask(DIVIDE), [[2, 0, 1, 1, 1, 0]])
        self.assertEqual(ask(COMMON), [[1, 1]])
        self.assertEqual(ask(RESULTANT), [[0, 1]])
        self.assertEqual(ask(DISC), [[0, 1]])
        self.assertEqual(ask(APART), [[0, 1, 1, 1, 2, 0, 1]])
        self.assertEqual(ask(IRREDUCIBLE), [[1]])
        self.assertEqual(ask(RATIONALS), [[1, 0, 1]])
        self.assertEqual(ask(SQUAREFREE), [[2, 0, 1]])
        self.assertEqual(ask(value(-3, 5)), [[-3, 5]])
        self.assertEqual(ask(SWAP, SWAP), [[1, 1], [2, 0, 1]])

    def test_the_second_is_1_beside_another_first(self):
        self.assertEqual(ask_last(one(3, 4), TIMES), [2, 3, 4])
        self.assertEqual(ask_last(one(), COMMON), [1, 1])

    def test_the_first_is_x_beside_another_second(self):
        self.assertEqual(ask_last(two(3, 4), TIMES), [3, 0, 3, 4])
        self.assertEqual(ask_last(two(), COMMON), [2, 0, 1])


class OneAndTwo(unittest.TestCase):
    def test_numbers_as_handed_over(self):
        for call in (one_as_handed, two_as_handed):
            self.assertEqual(ask(call(0, 1, 2, 3, 4, 5)), [[6, 0, -1, 1, -2, 2, -3]])
            self.assertEqual(ask(call(57, 58, 59, 60)), [[4, -29, 29, -30, 30]])

    def test_zeros_at_the_end_are_left_out(self):
        for call in (one, two):
            self.assertEqual(ask(call(1, 2, 0, 0)), [[2, 1, 2]])
            self.assertEqual(ask(call(0, 0, 3, 0, 0, 0)), [[3, 0, 0, 3]])
            self.assertEqual(ask(call(0, 0, 0, 0, 0, 0)), [[0]])
            self.assertEqual(ask(call(0)), [[0]])
            self.assertEqual(ask(call()), [[0]])

    def test_zeros_at_the_end_are_left_out_of_what_is_kept(self):
        self.assertEqual(ask(one(1, 2, 0), two(3, 0, 0), TIMES, RESULTANT)[2:], [[2, 3, 6], [0, 3]])
        self.assertEqual(ask_last(two(0, 0), DIVIDE), [-6])

    def test_each_is_its_own(self):
        self.assertEqual(ask_last(one(1, 1), two(2, 0, 1), DIVIDE), [0, 2, 1, 1, 1, 1])
        self.assertEqual(ask_last(two(1, 1), one(2, 0, 1), DIVIDE), [2, -1, 1, 1, 1, 1, 3, 1])

    def test_six_numbers_are_taken_and_seven_refused(self):
        for call in (one, two):
            self.assertEqual(ask(call(1, 2, 3, 4, 5, 6)), [[6, 1, 2, 3, 4, 5, 6]])
            self.assertEqual(ask(call(1, 2, 3, 4, 5, 6, 7)), [[-1]])
            self.assertEqual(ask(call(1, 2, 3, 4, 5, 6, 0)), [[-1]])
            self.assertEqual(ask(call(0, 0, 0, 0, 0, 0, 0)), [[-1]])
            self.assertEqual(ask(call(*[1] * 20)), [[-1]])

    def test_sixty_is_taken_and_above_it_refused(self):
        for call in (one_as_handed, two_as_handed):
            self.assertEqual(ask(call(60)), [[1, 30]])
            for handed in (61, 62, 4294967295):
                for place in range(6):
                    numbers = [2] * 6
                    numbers[place] = handed
                    self.assertEqual(ask(call(*numbers)), [[-1]])
            self.assertEqual(ask(call(61, 0, 0, 0, 0, 0, 0)), [[-1]])

    def test_all_is_as_it_was_after_a_refusal(self):
        kept = [one(5, 6), two(7, 8, 9)]
        without = told_of_both(*kept)
        for wrong in (one_as_handed(61), two_as_handed(2, 61), one(*[1] * 7), two(*[1] * 7)):
            self.assertEqual(ask_last(*kept, wrong), [-1])
            self.assertEqual(told_of_both(*kept, wrong), without)

    def test_a_refusal_at_the_beginning_leaves_x_and_1(self):
        given = ask(one(*[1] * 7), two_as_handed(61), *ALL_THERE_IS)
        self.assertEqual(given[:2], [[-1], [-1]])
        self.assertEqual(given[2:], ask(*ALL_THERE_IS))


class Times(unittest.TestCase):
    def test_ordinary(self):
        self.assertEqual(ask_last(one(1, 1), two(-1, 1), TIMES), [3, -1, 0, 1])
        self.assertEqual(ask_last(one(2, 3, 4), two(5, -6), TIMES), [4, 10, 3, 2, -24])

    def test_zero(self):
        self.assertEqual(ask_last(one(), two(1, 2), TIMES), [0])
        self.assertEqual(ask_last(one(1, 2), two(), TIMES), [0])
        self.assertEqual(ask_last(one(), two(), TIMES), [0])

    def test_degree_ten(self):
        largest = one_as_handed(*[60] * 6)
        lowest = two_as_handed(*[59] * 6)
        self.assertEqual(
            ask_last(largest, lowest, TIMES),
            [11] + [-900 * count for count in (1, 2, 3, 4, 5, 6, 5, 4, 3, 2, 1)],
        )

    def test_it_changes_neither(self):
        self.assertEqual(ask(one(1, 1), two(2, 1), TIMES, TIMES, COMMON)[2:], [[3, 2, 3, 1], [3, 2, 3, 1], [1, 1]])


class Divide(unittest.TestCase):
    def test_ordinary(self):
        self.assertEqual(ask_last(one(-1, 0, 0, 1), two(-1, 1), DIVIDE), [3, 1, 1, 1, 1, 1, 1, 0])
        self.assertEqual(ask_last(one(1, 0, 1), two(1, 2), DIVIDE), [2, -1, 4, 1, 2, 1, 5, 4])

    def test_fractions_are_in_lowest_terms_with_the_sign_above(self):
        self.assertEqual(ask_last(one(6), two(4), DIVIDE), [1, 3, 2, 0])
        self.assertEqual(ask_last(one(6), two(-4), DIVIDE), [1, -3, 2, 0])
        self.assertEqual(ask_last(one(-6), two(4), DIVIDE), [1, -3, 2, 0])
        self.assertEqual(ask_last(one(-6), two(-4), DIVIDE), [1, 3, 2, 0])
        self.assertEqual(ask_last(one(1, 1), two(0, -2), DIVIDE), [1, -1, 2, 1, 1, 1])

    def test_zero_within_is_told_as_0_and_1(self):
        self.assertEqual(ask_last(one(0, 0, 5), two(-3), DIVIDE), [3, 0, 1, 0, 1, -5, 3, 0])
        self.assertEqual(ask_last(one(1, 0, 1, 0, 0, 1), two(0, 0, 0, -2), DIVIDE), [3, 0, 1, 0, 1, -1, 2, 3, 1, 1, 0, 1, 1, 1])
        self.assertEqual(ask_last(one(0, 1, 0, 1), two(0, 0, 2), DIVIDE), [2, 0, 1, 1, 2, 2, 0, 1, 1, 1])

    def test_a_quotient_that_is_0(self):
        self.assertEqual(ask_last(one(3, -4), two(0, 0, 7), DIVIDE), [0, 2, 3, 1, -4, 1])
        self.assertEqual(ask_last(one(5), two(0, -2), DIVIDE), [0, 1, 5, 1])

    def test_0_divided(self):
        self.assertEqual(ask_last(one(), two(1, 2, 3), DIVIDE), [0, 0])
        self.assertEqual(ask_last(one(), two(-5), DIVIDE), [0, 0])

    def test_a_rest_that_is_much_lower(self):
        self.assertEqual(ask_last(one(7, 0, 0, 0, 1), two(0, 0, 0, 2), DIVIDE), [2, 0, 1, 1, 2, 1, 7, 1])

    def test_0_as_the_second_is_refused(self):
        self.assertEqual(ask_last(two(), DIVIDE), [-6])
        self.assertEqual(ask_last(one(), two(), DIVIDE), [-6])
        self.assertEqual(ask_last(two(0, 0, 0), DIVIDE), [-6])

    def test_all_is_as_it_was_after_a_refusal(self):
        readers = [TIMES, COMMON, RESULTANT, DISC]
        given = ask(one(1, 2, 4), two(), DIVIDE, *readers)
        self.assertEqual(given[2:], [[-6], [0], [3, 1, 2, 4], [0, 0], [0, -12]])


class Common(unittest.TestCase):
    def test_ordinary(self):
        self.assertEqual(ask_last(one(-1, 0, 1), two(1, 2, 1), COMMON), [2, 1, 1])
        self.assertEqual(ask_last(one(-6, 11, -6, 1), two(6, -5, 1), COMMON), [3, 6, -5, 1])
        self.assertEqual(ask_last(one(1, 0, 1), two(1, 1), COMMON), [1, 1])

    def test_it_is_bare(self):
        self.assertEqual(ask_last(one(6, -12), two(-9, 18), COMMON), [2, -1, 2])
        self.assertEqual(ask_last(one(4, 6), two(4, 6), COMMON), [2, 2, 3])
        self.assertEqual(ask_last(one(-4, -6), two(-4, -6), COMMON), [2, 2, 3])
        self.assertEqual(ask_last(one(-3, 1, 2), two(6, 4), COMMON), [2, 3, 2])

    def test_numbers_alone_have_1(self):
        self.assertEqual(ask_last(one(6), two(4), COMMON), [1, 1])
        self.assertEqual(ask_last(one(-6), two(-6), COMMON), [1, 1])
        self.assertEqual(ask_last(one(2, 4), two(2), COMMON), [1, 1])
        self.assertEqual(ask_last(one(-2), two(2, 4), COMMON), [1, 1])

    def test_with_0_it_is_the_other_one_bare(self):
        self.assertEqual(ask_last(one(), two(4, -6), COMMON), [2, -2, 3])
        self.assertEqual(ask_last(one(4, -6), two(), COMMON), [2, -2, 3])
        self.assertEqual(ask_last(one(), two(-7), COMMON), [1, 1])
        self.assertEqual(ask_last(one(-7), two(), COMMON), [1, 1])

    def test_of_0_and_0_it_is_0(self):
        self.assertEqual(ask_last(one(), two(), COMMON), [0])


class Resultant(unittest.TestCase):
    def test_ordinary(self):
        self.assertEqual(ask_last(one(-2, 1), two(-5, 1), RESULTANT), [0, -3])
        self.assertEqual(ask_last(one(-5, 1), two(-2, 1), RESULTANT), [0, 3])
        self.assertEqual(ask_last(one(1, 0, 1), two(-1, 0, 1), RESULTANT), [0, 4])
        self.assertEqual(ask_last(one(3, 5), two(7, 11), RESULTANT), [0, 2])

    def test_something_in_common_makes_it_0(self):
        self.assertEqual(ask_last(one(-1, 0, 1), two(1, 2, 1), RESULTANT), [0, 0])

    def test_no_rows(self):
        self.assertEqual(ask_last(one(7), two(-9), RESULTANT), [0, 1])

    def test_degree_0_on_one_side(self):
        self.assertEqual(ask_last(one(-3), two(1, 2, 3, 4), RESULTANT), [0, -27])
        self.assertEqual(ask_last(one(1, 2, 3, 4, 5), two(-2), RESULTANT), [0, 16])
        self.assertEqual(ask_last(one(1, 2), two(-2), RESULTANT), [0, -2])

    def test_with_0_it_is_0(self):
        self.assertEqual(ask_last(one(), two(1, 2), RESULTANT), [0, 0])
        self.assertEqual(ask_last(one(1, 2), two(), RESULTANT), [0, 0])
        self.assertEqual(ask_last(one(), two(3), RESULTANT), [0, 0])
        self.assertEqual(ask_last(one(3), two(), RESULTANT), [0, 0])
        self.assertEqual(ask_last(one(), two(), RESULTANT), [0, 0])

    def test_degree_5_on_both_sides(self):
        self.assertEqual(ask_last(one(-2, 0, 0, 0, 0, 1), two(-3, 0, 0, 0, 0, 1), RESULTANT), [0, -1])
        self.assertEqual(ask_last(one(0, 0, 0, 0, 0, 1), two(3, 0, 0, 0, 0, 1), RESULTANT), [0, 243])

    def test_a_degree_above_5_is_refused(self):
        for n in (7, 9, 11, 29):
            for second in (two(1), two(), two(1, 2, 3, 4, 5, 6)):
                self.assertEqual(ask_last(circle(n), second, RESULTANT), [-5])
                self.assertEqual(ask_last(circle(n), second, SWAP, RESULTANT), [-5])
            self.assertEqual(ask_last(circle(n), SWAP, circle(14), RESULTANT), [-5])

    def test_all_is_as_it_was_after_a_degree_above_5(self):
        for kept in ([circle(7), two(2, 3)], [circle(7), two(2, 3), SWAP]):
            self.assertEqual(ask_last(*kept, RESULTANT), [-5])
            self.assertEqual(told_of_both(*kept, RESULTANT), told_of_both(*kept))


class Disc(unittest.TestCase):
    def test_degree_1(self):
        self.assertEqual(ask_last(one(5, 7), DISC), [0, 1])
        self.assertEqual(ask_last(one(5, -7), DISC), [0, 1])

    def test_degree_2_is_b_times_b_less_4_a_c(self):
        self.assertEqual(ask_last(one(-1, 3, 2), DISC), [0, 17])
        self.assertEqual(ask_last(one(1, 3, -2), DISC), [0, 17])
        self.assertEqual(ask_last(one(5, 1, 1), DISC), [0, -19])

    def test_degree_3(self):
        self.assertEqual(ask_last(one(1, -3, 0, 1), DISC), [0, 81])
        self.assertEqual(ask_last(one(1, 1, 0, 1), DISC), [0, -31])
        self.assertEqual(ask_last(one(1, 1, 0, -2), DISC), [0, 8 - 108])

    def test_degree_4(self):
        self.assertEqual(ask_last(one(1, 0, 0, 0, 1), DISC), [0, 256])
        self.assertEqual(ask_last(one(-1, 0, 0, 0, 1), DISC), [0, -256])
        self.assertEqual(ask_last(one(1, 1, 0, 0, 1), DISC), [0, 229])

    def test_degree_5(self):
        self.assertEqual(ask_last(one(-1, -1, 0, 0, 0, 1), DISC), [0, 3125 - 256])
        self.assertEqual(ask_last(one(1, 3, 0, 0, 0, -1), DISC), [0, 3125 - 256 * 243])

    def test_a_part_twice_makes_it_0(self):
        self.assertEqual(ask_last(one(1, 2, 1), DISC), [0, 0])
        self.assertEqual(ask_last(one(0, 0, 0, 0, 0, -3), DISC), [0, 0])

    def test_the_second_does_not_matter(self):
        self.assertEqual(ask_last(one(-1, 3, 2), two(), DISC), [0, 17])
        self.assertEqual(ask_last(one(-1, 3, 2), two(9, 9, 9), DISC), [0, 17])

    def test_degree_0_and_0_are_refused(self):
        self.assertEqual(ask_last(one(4), DISC), [-6])
        self.assertEqual(ask_last(one(-4, 0, 0), DISC), [-6])
        self.assertEqual(ask_last(one(), DISC), [-6])

    def test_all_is_as_it_was_after_a_refusal(self):
        given = ask(one(4), two(2, 3), DISC, TIMES, RESULTANT, one(0), DISC, TIMES, COMMON)
        self.assertEqual(given[2:], [[-6], [2, 8, 12], [0, 4], [0], [-6], [0], [2, 2, 3]])

    def test_a_degree_above_5_is_refused(self):
        for n in (7, 9, 11, 29):
            self.assertEqual(ask_last(circle(n), DISC), [-5])
        self.assertEqual(ask(circle(7), two(1, 2), DISC, SWAP, DISC)[2:], [[-5], [2, 1, 2], [0, 1]])

    def test_all_is_as_it_was_after_a_degree_above_5(self):
        self.assertEqual(told_of_both(circle(7), two(2, 3), DISC), told_of_both(circle(7), two(2, 3)))


class CallsTogether(unittest.TestCase):
    def test_answers_follow_what_was_told_before(self):
        self.assertEqual(
            ask(one(-1, 0, 1), two(1, 1), DIVIDE, one(2, 1), DIVIDE, RESULTANT, two(2, 1), COMMON, RESULTANT),
            [
                [3, -1, 0, 1], [2, 1, 1], [2, -1, 1, 1, 1, 0], [2, 2, 1], [1, 1, 1, 1, 1, 1], [0, -1],
                [2, 2, 1], [2, 2, 1], [0, 0],
            ],
        )

    def test_readers_change_nothing(self):
        kept = [one(3, -1, 4, 1), two(-5, 9, 2)]
        single = [ask_last(*kept, reader) for reader in EVERY_READER]
        self.assertEqual(ask(*kept, *EVERY_READER, *reversed(EVERY_READER))[2:], single + single[::-1])


if __name__ == "__main__":
    unittest.main()
