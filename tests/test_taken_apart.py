"""The calls apart, irreducible, rationals and squarefree."""

import unittest

from support import (
    APART, IRREDUCIBLE, RATIONALS, SQUAREFREE, SWAP,
    ask, ask_last, circle, one, one_as_handed, parts_told, told_of_both, two,
)

TAKING_APART = [APART, IRREDUCIBLE, RATIONALS]


def apart(*numbers):
    return parts_told(ask_last(one(*numbers), APART))


def irreducible(*numbers):
    return ask_last(one(*numbers), IRREDUCIBLE)


def rationals(*numbers):
    return ask_last(one(*numbers), RATIONALS)


def squarefree(*numbers):
    return ask_last(one(*numbers), SQUAREFREE)


class Apart(unittest.TestCase):
    def test_how_it_is_told(self):
        self.assertEqual(ask_last(one(-2, 0, 2), APART), [0, 2, 2, 1, 2, -1, 1, 1, 2, 1, 1])
        self.assertEqual(ask_last(one(0, 0, 3, 3), APART), [0, 3, 2, 2, 2, 0, 1, 1, 2, 1, 1])

    def test_degree_0_has_no_parts(self):
        for number in (1, -1, 5, 12, -12):
            self.assertEqual(ask_last(one(number), APART), [0, number, 0])

    def test_degree_1(self):
        self.assertEqual(apart(0, 1), (1, [(1, [0, 1])]))
        self.assertEqual(apart(3, 2), (1, [(1, [3, 2])]))
        self.assertEqual(apart(4, -6), (-2, [(1, [-2, 3])]))
        self.assertEqual(apart(0, -7), (-7, [(1, [0, 1])]))

    def test_degree_2(self):
        self.assertEqual(apart(6, 5, 1), (1, [(1, [2, 1]), (1, [3, 1])]))
        self.assertEqual(apart(4, 4, 1), (1, [(2, [2, 1])]))
        self.assertEqual(apart(1, 0, 1), (1, [(1, [1, 0, 1])]))
        self.assertEqual(apart(-2, 0, 1), (1, [(1, [-2, 0, 1])]))
        self.assertEqual(apart(-1, 1, 6), (1, [(1, [-1, 3]), (1, [1, 2])]))

    def test_degree_3(self):
        self.assertEqual(apart(-6, 11, -6, 1), (1, [(1, [-3, 1]), (1, [-2, 1]), (1, [-1, 1])]))
        self.assertEqual(apart(-1, 0, 0, 1), (1, [(1, [-1, 1]), (1, [1, 1, 1])]))
        self.assertEqual(apart(-2, 0, 0, 1), (1, [(1, [-2, 0, 0, 1])]))
        self.assertEqual(apart(1, 3, 3, 1), (1, [(3, [1, 1])]))
        self.assertEqual(apart(-1, 0, 3, 2), (1, [(1, [-1, 2]), (2, [1, 1])]))

    def test_degree_4(self):
        self.assertEqual(apart(1, 0, 0, 0, 1), (1, [(1, [1, 0, 0, 0, 1])]))
        self.assertEqual(apart(1, 0, -10, 0, 1), (1, [(1, [1, 0, -10, 0, 1])]))
        self.assertEqual(apart(-2, 0, 0, 1, 1), (1, [(1, [-1, 1]), (1, [2, 2, 2, 1])]))
        self.assertEqual(apart(-2, 0, 1, 0, 1), (1, [(1, [-1, 1]), (1, [1, 1]), (1, [2, 0, 1])]))
        self.assertEqual(apart(-1, -1, 0, 1, 1), (1, [(1, [-1, 1]), (1, [1, 1]), (1, [1, 1, 1])]))
        self.assertEqual(apart(-2, 2, 0, -1, 1), (1, [(1, [-1, 1]), (1, [2, 0, 0, 1])]))

    def test_two_parts_of_degree_2(self):
        self.assertEqual(apart(4, 0, 0, 0, 1), (1, [(1, [2, -2, 1]), (1, [2, 2, 1])]))
        self.assertEqual(apart(1, 0, 0, 0, 4), (1, [(1, [1, -2, 2]), (1, [1, 2, 2])]))
        self.assertEqual(apart(-3, 0, 1, 0, 2), (1, [(1, [-1, 1]), (1, [1, 1]), (1, [3, 0, 2])]))
        self.assertEqual(apart(-6, 0, -1, 0, 1), (1, [(1, [-3, 0, 1]), (1, [2, 0, 1])]))
        self.assertEqual(apart(2, 0, 4, 0, 2), (2, [(2, [1, 0, 1])]))

    def test_a_part_of_degree_2_and_one_of_degree_3(self):
        self.assertEqual(apart(1, 0, 0, 0, 1, 1), (1, [(1, [1, 1, 1]), (1, [1, -1, 0, 1])]))
        self.assertEqual(apart(-2, 0, -2, 1, 0, 1), (1, [(1, [1, 0, 1]), (1, [-2, 0, 0, 1])]))
        self.assertEqual(apart(-9, 0, 6, -6, 0, 4), (1, [(1, [-3, 0, 2]), (1, [3, 0, 0, 2])]))
        self.assertEqual(apart(6, 0, -4, 9, 0, -6), (-1, [(1, [-3, 0, 2]), (1, [2, 0, 0, 3])]))
        self.assertEqual(apart(2, 1, 3, -1, 1, 2), (1, [(1, [1, 1, 2]), (1, [2, -1, 0, 1])]))

    def test_degree_5(self):
        self.assertEqual(apart(-1, -1, 0, 0, 0, 1), (1, [(1, [-1, -1, 0, 0, 0, 1])]))
        self.assertEqual(apart(-2, 0, 0, 0, 0, -2), (-2, [(1, [1, 1]), (1, [1, -1, 1, -1, 1])]))
        self.assertEqual(apart(0, 4, 0, -5, 0, 1), (1, [(1, [root, 1]) for root in (-2, -1, 0, 1, 2)]))
        self.assertEqual(apart(0, 4, 0, 0, 0, 1), (1, [(1, [0, 1]), (1, [2, -2, 1]), (1, [2, 2, 1])]))
        self.assertEqual(apart(0, 0, -2, 0, 0, 1), (1, [(2, [0, 1]), (1, [-2, 0, 0, 1])]))

    def test_a_part_that_is_there_several_times(self):
        self.assertEqual(apart(0, 0, 0, 0, 0, 12), (12, [(5, [0, 1])]))
        self.assertEqual(apart(1, 5, 10, 10, 5, 1), (1, [(5, [1, 1])]))
        self.assertEqual(apart(1, 0, 2, 0, 1), (1, [(2, [1, 0, 1])]))
        self.assertEqual(apart(1, 1, 2, 2, 1, 1), (1, [(1, [1, 1]), (2, [1, 0, 1])]))
        self.assertEqual(apart(1, 4, 4), (1, [(2, [1, 2])]))

    def test_a_whole_number_below_0_ahead_of_the_parts(self):
        self.assertEqual(apart(1, 0, -1), (-1, [(1, [-1, 1]), (1, [1, 1])]))
        self.assertEqual(apart(-1, -5, -10, -10, -5, -1), (-1, [(5, [1, 1])]))
        self.assertEqual(apart(-12, 0, -12), (-12, [(1, [1, 0, 1])]))
        self.assertEqual(apart(-6, -4), (-2, [(1, [3, 2])]))

    def test_the_lowest_degree_comes_first(self):
        self.assertEqual(apart(-6, -2, 3, 1), (1, [(1, [3, 1]), (1, [-2, 0, 1])]))

    def test_parts_of_the_same_degree_in_their_order(self):
        # They differ at the power 0, then at the power 1, then at the power 2.
        self.assertEqual(apart(2, -5, 2), (1, [(1, [-2, 1]), (1, [-1, 2])]))
        self.assertEqual(apart(1, 3, 2), (1, [(1, [1, 1]), (1, [1, 2])]))
        self.assertEqual(apart(1, 6, 11, 6), (1, [(1, [1, 1]), (1, [1, 2]), (1, [1, 3])]))
        self.assertEqual(apart(1, 0, 1, 0, 1), (1, [(1, [1, -1, 1]), (1, [1, 1, 1])]))
        self.assertEqual(apart(1, 0, 3, 0, 2), (1, [(1, [1, 0, 1]), (1, [1, 0, 2])]))

    def test_a_part_with_numbers_above_12(self):
        self.assertEqual(apart(12, 11, 1, -12, -12), (-1, [(1, [-1, 1]), (1, [12, 23, 24, 12])]))

    def test_the_second_does_not_matter(self):
        for second in (two(), two(-1, 1), two(30, 30)):
            self.assertEqual(ask_last(one(-1, 0, 1), second, APART), ask_last(one(-1, 0, 1), APART))

    def test_0_is_refused(self):
        self.assertEqual(ask_last(one(), APART), [-6])
        self.assertEqual(ask_last(one(0, 0), APART), [-6])


class Irreducible(unittest.TestCase):
    def test_0_and_degree_0_are_not(self):
        self.assertEqual(irreducible(), [0])
        self.assertEqual(irreducible(0, 0, 0), [0])
        for number in (1, -1, 2, 7, 12, -12):
            self.assertEqual(irreducible(number), [0])

    def test_degree_1_is_always(self):
        for numbers in ((0, 1), (1, 1), (0, 5), (6, 4), (-12, 12), (3, -9)):
            self.assertEqual(irreducible(*numbers), [1])

    def test_irreducible_ones(self):
        for numbers in (
            (1, 0, 1), (-2, 0, 1), (2, 0, 2), (-1, -1, -1), (-2, 0, 0, 1), (1, 1, 0, 1), (4, 4, 0, 4), (1, 0, 0, 0, 1),
            (1, 1, 1, 1, 1), (1, 0, -10, 0, 1), (-6, 0, 0, 0, 0, -3), (-1, -1, 0, 0, 0, 1), (2, 0, 0, 0, 0, 1),
        ):
            self.assertEqual(irreducible(*numbers), [1], numbers)

    def test_products(self):
        for numbers in (
            (-1, 0, 1), (0, 0, 1), (1, 2, 1), (0, 1, 1), (1, 4, 4), (-1, 0, 0, 1), (1, 1, 1, 1), (4, 0, 0, 0, 1),
            (1, 0, 0, 0, 4), (1, 0, 2, 0, 1), (1, 0, 0, 0, 1, 1), (-2, 0, -2, 1, 0, 1), (1, 0, 0, 0, 0, 1),
            (0, 0, 0, 0, 0, -1), (-6, 0, -1, 0, 1),
        ):
            self.assertEqual(irreducible(*numbers), [0], numbers)

    def test_a_whole_number_ahead_is_no_part(self):
        self.assertEqual(irreducible(12, 0, 12), [1])
        self.assertEqual(irreducible(-12, 0, 0, 6), [1])


class Rationals(unittest.TestCase):
    def test_degree_0_has_none(self):
        for number in (1, -1, 12, -12):
            self.assertEqual(rationals(number), [0])

    def test_the_root_0(self):
        self.assertEqual(rationals(0, 1), [1, 0, 1])
        self.assertEqual(rationals(0, 0, 0, 0, 0, -12), [1, 0, 1])
        self.assertEqual(rationals(0, -1, 0, 1), [3, -1, 1, 0, 1, 1, 1])

    def test_fractions_below_0_and_above_0_rise(self):
        self.assertEqual(rationals(-1, 0, 4), [2, -1, 2, 1, 2])
        self.assertEqual(rationals(-1, 1, 6), [2, -1, 2, 1, 3])
        self.assertEqual(rationals(1, 6, 11, 6), [3, -1, 1, -1, 2, -1, 3])
        self.assertEqual(rationals(-1, 6, -11, 6), [3, 1, 3, 1, 2, 1, 1])
        self.assertEqual(rationals(0, -2, 1, 6), [3, -2, 3, 0, 1, 1, 2])
        self.assertEqual(rationals(0, 2, -1, -6), [3, -2, 3, 0, 1, 1, 2])
        self.assertEqual(rationals(-6, -1, 12), [2, -2, 3, 3, 4])
        self.assertEqual(rationals(0, 4, 0, -5, 0, 1), [5, -2, 1, -1, 1, 0, 1, 1, 1, 2, 1])

    def test_lowest_terms_with_the_sign_above(self):
        self.assertEqual(rationals(4, 6), [1, -2, 3])
        self.assertEqual(rationals(4, -6), [1, 2, 3])
        self.assertEqual(rationals(-12, -8), [1, -3, 2])
        self.assertEqual(rationals(-12, 1), [1, 12, 1])
        self.assertEqual(rationals(1, 12), [1, -1, 12])

    def test_a_root_that_is_there_several_times_is_told_once(self):
        self.assertEqual(rationals(1, 2, 1), [1, -1, 1])
        self.assertEqual(rationals(1, -4, 4), [1, 1, 2])
        self.assertEqual(rationals(-1, 0, 3, 2), [2, -1, 1, 1, 2])

    def test_no_root_that_is_a_fraction(self):
        self.assertEqual(rationals(-2, 0, 1), [0])
        self.assertEqual(rationals(1, 0, 1), [0])
        self.assertEqual(rationals(4, 0, 0, 0, 1), [0])

    def test_some_roots_that_are_fractions(self):
        self.assertEqual(rationals(-1, 0, 0, 1), [1, 1, 1])
        self.assertEqual(rationals(1, 0, 0, 0, 0, 1), [1, -1, 1])

    def test_0_is_refused(self):
        self.assertEqual(rationals(), [-6])
        self.assertEqual(rationals(0, 0, 0), [-6])


class WhatIsNotTakenApart(unittest.TestCase):
    def test_numbers_of_12_are_taken_and_of_13_refused(self):
        for call in TAKING_APART:
            for length in range(1, 7):
                for place in range(length):
                    for size, refused in ((12, False), (-12, False), (13, True), (-13, True), (30, True), (-30, True)):
                        numbers = [1] * length
                        numbers[place] = size
                        self.assertEqual(ask_last(one(*numbers), call) == [-6], refused, (numbers, call))

    def test_as_handed_over(self):
        # 24 and 23 are 12 and -12; 25 and 26 are -13 and 13.
        for call in TAKING_APART:
            self.assertNotEqual(ask_last(one_as_handed(24, 23), call), [-6])
            self.assertEqual(ask_last(one_as_handed(25, 2), call), [-6])
            self.assertEqual(ask_last(one_as_handed(2, 26), call), [-6])

    def test_a_degree_above_5(self):
        for n in range(1, 31):
            told = ask(circle(n), *TAKING_APART)
            for answer in told[1:]:
                self.assertEqual(answer == [-6], told[0][0] > 6, n)

    def test_all_is_as_it_was_after_a_refusal(self):
        for kept in ([one(), two(2, 3)], [one(13, 1), two(2, 3)], [one(1, -13), two()], [circle(9), two(2, 3)]):
            without = told_of_both(*kept)
            for call in TAKING_APART:
                self.assertEqual(told_of_both(*kept, call), without)

    def test_the_first_alone_counts(self):
        for kept in ([two(13, 13)], [two()], [circle(7), SWAP, one(0, 1)]):
            self.assertEqual(ask(*kept, *TAKING_APART)[len(kept):], ask(*TAKING_APART))


class Squarefree(unittest.TestCase):
    def test_degree_0_is_1(self):
        for number in (1, -1, 12, 30, -30):
            self.assertEqual(squarefree(number), [1, 1])

    def test_each_part_once(self):
        self.assertEqual(squarefree(1, 2, 1), [2, 1, 1])
        self.assertEqual(squarefree(0, 0, 0, 0, 0, -7), [2, 0, 1])
        self.assertEqual(squarefree(1, 0, 2, 0, 1), [3, 1, 0, 1])
        self.assertEqual(squarefree(0, 0, 1, 2, 1), [3, 0, 1, 1])
        self.assertEqual(squarefree(-1, 0, 3, 2), [3, -1, 1, 2])
        self.assertEqual(squarefree(1, 1, 2, 2, 1, 1), [4, 1, 1, 1, 1])

    def test_it_is_bare(self):
        self.assertEqual(squarefree(4, -6), [2, -2, 3])
        self.assertEqual(squarefree(-3, 0, 3), [3, -1, 0, 1])
        self.assertEqual(squarefree(-4, -16, -16), [2, 1, 2])

    def test_what_has_each_part_once_stays(self):
        for numbers in ((0, 1), (1, 0, 1), (-1, 0, 0, 1), (-1, -1, 0, 0, 0, 1)):
            self.assertEqual(squarefree(*numbers), [len(numbers), *numbers])

    def test_large_numbers_are_taken(self):
        self.assertEqual(squarefree(25, 30, 9), [2, 5, 3])
        self.assertEqual(squarefree(30, 0, -30), [3, -1, 0, 1])
        self.assertEqual(squarefree(13, 26, 13), [2, 1, 1])

    def test_degrees_above_5_are_taken(self):
        for n in (7, 29, 30):
            told = ask(circle(n), SQUAREFREE)
            self.assertEqual(told[1], told[0])

    def test_0_is_refused(self):
        self.assertEqual(squarefree(), [-6])
        self.assertEqual(squarefree(0, 0), [-6])
        self.assertEqual(ask_last(two(), SWAP, SQUAREFREE), [-6])

    def test_all_is_as_it_was_after_a_refusal(self):
        kept = [one(), two(2, 3)]
        self.assertEqual(told_of_both(*kept, SQUAREFREE), told_of_both(*kept))


if __name__ == "__main__":
    unittest.main()
