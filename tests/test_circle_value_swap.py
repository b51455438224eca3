"""The calls circle, value and swap, and calls behind them that depend on them."""

import unittest

from support import (
    APART, COMMON, DISC, DIVIDE, IRREDUCIBLE, RATIONALS, RESULTANT, SQUAREFREE, SWAP, TIMES,
    ask, ask_last, circle, one, times, told_of_both, two, value, value_as_handed,
)

CIRCLES = {
    1: [-1, 1],
    2: [1, 1],
    3: [1, 1, 1],
    4: [1, 0, 1],
    5: [1, 1, 1, 1, 1],
    6: [1, -1, 1],
    7: [1, 1, 1, 1, 1, 1, 1],
    8: [1, 0, 0, 0, 1],
    9: [1, 0, 0, 1, 0, 0, 1],
    10: [1, -1, 1, -1, 1],
    12: [1, 0, -1, 0, 1],
    15: [1, -1, 0, 1, -1, 1, 0, -1, 1],
    16: [1, 0, 0, 0, 0, 0, 0, 0, 1],
    29: [1] * 29,
    30: [1, 1, 0, -1, -1, -1, 0, 1, 1],
}


class Circle(unittest.TestCase):
    def test_known_ones(self):
        for n, numbers in CIRCLES.items():
            self.assertEqual(ask(circle(n)), [[len(numbers), *numbers]])

    def test_those_of_the_divisors_make_up_x_to_the_power_less_1(self):
        told = {n: ask(circle(n))[0] for n in range(1, 31)}
        for n in range(1, 31):
            self.assertEqual(told[n][0], len(told[n]) - 1)
            whole = [1]
            for divisor in range(1, n + 1):
                if n % divisor == 0:
                    whole = times(whole, told[divisor][1:])
            self.assertEqual(whole, [-1] + [0] * (n - 1) + [1])

    def test_those_of_a_degree_up_to_5_are_irreducible(self):
        for n in (1, 2, 3, 4, 5, 6, 8, 10, 12):
            told, irreducible, apart = ask(circle(n), IRREDUCIBLE, APART)
            self.assertEqual(irreducible, [1])
            self.assertEqual(apart, [0, 1, 1, 1, *told])

    def test_any_two_have_nothing_in_common(self):
        for n in range(1, 31):
            for other in range(1, n):
                self.assertEqual(ask_last(circle(n), SWAP, circle(other), COMMON), [1, 1])

    def test_it_is_the_first(self):
        for n in range(1, 31):
            told, product, swapped, back = ask(circle(n), TIMES, SWAP, SWAP)
            self.assertEqual((product, swapped, back), (told, [1, 1], told))

    def test_it_takes_the_place_of_the_first_alone(self):
        self.assertEqual(ask(one(5, 6), two(7, 8), circle(4), SWAP)[2:], [[3, 1, 0, 1], [2, 7, 8]])

    def test_n_beyond_1_to_30_is_refused(self):
        for n in (0, 31, 32, 60, 4294967295):
            self.assertEqual(ask(circle(n)), [[-1]])

    def test_all_is_as_it_was_after_a_refusal(self):
        for kept in ([], [one(5, 6), two(7, 8, 9)], [circle(7), SWAP, circle(12)]):
            for n in (0, 31, 4294967295):
                self.assertEqual(told_of_both(*kept, circle(n)), told_of_both(*kept))


class Value(unittest.TestCase):
    def test_ordinary(self):
        self.assertEqual(ask_last(one(1, 2, 3), value(2, 1)), [17, 1])
        self.assertEqual(ask_last(one(1, 2, 3), value(1, 2)), [11, 4])
        self.assertEqual(ask_last(one(-7), value(5, 9)), [-7, 1])

    def test_a_below_0(self):
        self.assertEqual(ask_last(one(1, 2, 3), value(-2, 1)), [9, 1])
        self.assertEqual(ask_last(one(1, 2, 3), value(-1, 2)), [3, 4])
        self.assertEqual(ask_last(one(0, 0, 0, 1), value(-2, 3)), [-8, 27])

    def test_a_is_handed_over_as_told_and_b_as_it_is(self):
        self.assertEqual(ask(value_as_handed(3, 3)), [[-2, 3]])
        self.assertEqual(ask(value_as_handed(4, 3)), [[2, 3]])
        self.assertEqual(ask(value_as_handed(1, 1)), [[-1, 1]])
        self.assertEqual(ask(value_as_handed(2, 7)), [[1, 7]])

    def test_lowest_terms(self):
        self.assertEqual(ask(value(6, 4)), [[3, 2]])
        self.assertEqual(ask(value(-6, 4)), [[-3, 2]])
        self.assertEqual(ask_last(one(0, 2), value(1, 2)), [1, 1])
        self.assertEqual(ask_last(one(0, 0, 12), value(1, 6)), [1, 3])

    def test_a_value_of_0_is_told_as_0_and_1(self):
        self.assertEqual(ask(value(0, 5)), [[0, 1]])
        self.assertEqual(ask_last(one(-1, 0, 4), value(1, 2)), [0, 1])
        self.assertEqual(ask_last(one(-1, 0, 4), value(-1, 2)), [0, 1])

    def test_of_the_polynomial_0(self):
        for a, b in ((0, 1), (5, 7), (-5, 7), (2147483647, 4294967295)):
            self.assertEqual(ask_last(one(), value(a, b)), [0, 1])

    def test_of_degree_0(self):
        self.assertEqual(ask_last(one(30), value(-5, 7)), [30, 1])

    def test_the_largest_a_and_b(self):
        self.assertEqual(ask(value_as_handed(4294967294, 4294967295)), [[2147483647, 4294967295]])
        self.assertEqual(ask(value_as_handed(4294967295, 4294967295)), [[-2147483648, 4294967295]])
        self.assertEqual(ask(value_as_handed(4294967294, 4294967294)), [[1, 2]])
        above = 2147483648 ** 5 * 30
        self.assertEqual(ask_last(one(0, 0, 0, 0, 0, 30), value_as_handed(4294967295, 1)), [-above, 1])
        self.assertEqual(
            ask_last(circle(23), value_as_handed(4294967295, 4294967295)),
            [sum((-2147483648) ** i * 4294967295 ** (22 - i) for i in range(23)), 4294967295 ** 22],
        )

    def test_it_changes_nothing(self):
        kept = [one(5, 6), two(7, 8, 9)]
        self.assertEqual(told_of_both(*kept, value(3, 4)), told_of_both(*kept))

    def test_b_0_is_refused(self):
        for kept in ([], [one()], [one(3)], [circle(30)]):
            for a in (0, 1, 2, 4294967295):
                self.assertEqual(ask_last(*kept, value_as_handed(a, 0)), [-6])

    def test_all_is_as_it_was_after_a_refusal(self):
        for kept in ([], [one(5, 6), two(7, 8, 9)], [one(), two()]):
            self.assertEqual(told_of_both(*kept, value(3, 0)), told_of_both(*kept))


class Swap(unittest.TestCase):
    def test_the_first_is_shown_as_it_is_then(self):
        self.assertEqual(ask(SWAP, SWAP, SWAP), [[1, 1], [2, 0, 1], [1, 1]])
        self.assertEqual(ask(one(1, 2), two(3, 4, 5), SWAP, SWAP)[2:], [[3, 3, 4, 5], [2, 1, 2]])
        self.assertEqual(ask(two(), SWAP, SWAP), [[0], [0], [2, 0, 1]])

    def test_one_and_two_behind_it(self):
        self.assertEqual(ask(SWAP, one(5, 6), SWAP, SWAP)[2:], [[2, 0, 1], [2, 5, 6]])
        self.assertEqual(ask(SWAP, two(5, 6), SWAP, SWAP)[2:], [[2, 5, 6], [1, 1]])

    def test_both_may_be_the_same(self):
        self.assertEqual(ask(one(1, 2), two(1, 2), SWAP, one(7), SWAP)[2:], [[2, 1, 2], [1, 7], [2, 1, 2]])
        self.assertEqual(ask(circle(3), SWAP, circle(3), SWAP, one(7), SWAP)[3:], [[3, 1, 1, 1], [1, 7], [3, 1, 1, 1]])


class CallsTogether(unittest.TestCase):
    def test_circle_then_each(self):
        self.assertEqual(
            ask(
                two(1, 1), circle(4), TIMES, DIVIDE, COMMON, RESULTANT, DISC, APART, IRREDUCIBLE, RATIONALS, SQUAREFREE,
                value(2, 3),
            ),
            [
                [2, 1, 1], [3, 1, 0, 1], [4, 1, 1, 1, 1], [2, -1, 1, 1, 1, 1, 2, 1], [1, 1], [0, 2], [0, -4],
                [0, 1, 1, 1, 3, 1, 0, 1], [1], [0], [3, 1, 0, 1], [13, 9],
            ],
        )

    def test_swap_then_each(self):
        self.assertEqual(
            ask(
                circle(4), two(2, 2), SWAP, TIMES, DIVIDE, COMMON, RESULTANT, DISC, APART, IRREDUCIBLE, RATIONALS,
                SQUAREFREE, value(2, 3),
            )[2:],
            [
                [2, 2, 2], [4, 2, 2, 2, 2], [0, 2, 2, 1, 2, 1], [1, 1], [0, 8], [0, 1], [0, 2, 1, 1, 2, 1, 1], [1],
                [1, -1, 1], [2, 1, 1], [10, 3],
            ],
        )
        self.assertEqual(ask(circle(1), two(2, 1), RESULTANT, SWAP, RESULTANT)[2:], [[0, 3], [2, 2, 1], [0, -3]])

    def test_a_circle_of_a_high_degree_then_each(self):
        ones = [1] * 7
        self.assertEqual(
            ask(
                two(-1, 1), circle(7), TIMES, DIVIDE, COMMON, RESULTANT, DISC, APART, IRREDUCIBLE, RATIONALS, SQUAREFREE,
                value(-1, 1), SWAP, TIMES, DIVIDE, COMMON, RESULTANT, DISC, APART,
            )[1:],
            [
                [7, *ones], [8, -1, 0, 0, 0, 0, 0, 0, 1], [6, 6, 1, 5, 1, 4, 1, 3, 1, 2, 1, 1, 1, 1, 7, 1], [1, 1], [-5],
                [-5], [-6], [-6], [-6], [7, *ones], [1, 1], [2, -1, 1], [8, -1, 0, 0, 0, 0, 0, 0, 1],
                [0, 2, -1, 1, 1, 1], [1, 1], [-5], [0, 1], [0, 1, 1, 1, 2, -1, 1],
            ],
        )

    def test_one_circle_and_another(self):
        self.assertEqual(
            ask(circle(3), SWAP, circle(6), TIMES, RESULTANT, DIVIDE, SWAP, circle(5), DIVIDE, SWAP)[2:],
            [
                [3, 1, -1, 1], [5, 1, 0, 1, 0, 1], [0, 4], [1, 1, 1, 2, 0, 1, -2, 1], [3, 1, 1, 1],
                [5, 1, 1, 1, 1, 1], [3, 2, 1, 2, 1, 1, 1, 2, -1, 1, 1, 1], [3, 1, -1, 1],
            ],
        )

    def test_circle_in_common_with_what_is_told(self):
        self.assertEqual(
            ask(circle(6), two(1, 0, 0, 1), COMMON, RESULTANT, SWAP, APART, DIVIDE)[2:],
            [
                [3, 1, -1, 1], [0, 0], [4, 1, 0, 0, 1], [0, 1, 2, 1, 2, 1, 1, 1, 3, 1, -1, 1],
                [2, 1, 1, 1, 1, 0],
            ],
        )

    def test_refusals_between(self):
        self.assertEqual(
            ask(circle(31), circle(2), value(1, 0), two(), DIVIDE, SWAP, SQUAREFREE, APART, IRREDUCIBLE, RATIONALS, SWAP),
            [[-1], [2, 1, 1], [-6], [0], [-6], [0], [-6], [-6], [0], [-6], [2, 1, 1]],
        )


if __name__ == "__main__":
    unittest.main()
