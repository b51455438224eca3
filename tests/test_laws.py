"""Many polynomials, with answers held against laws and against other ways to the same number."""

import unittest
from fractions import Fraction
from itertools import permutations, product as choices
from math import gcd, prod

from support import COMMON, DISC, DIVIDE, RESULTANT, TIMES, Numbers, ask, from_roots, one, times, two

ROUNDS = 1500


def plus(left, right):
    length = max(len(left), len(right))
    numbers = [a + b for a, b in zip(left + [0] * (length - len(left)), right + [0] * (length - len(right)))]
    while numbers and numbers[-1] == 0:
        numbers.pop()
    return numbers


def sign_of(order):
    pairs = [(i, j) for j in range(len(order)) for i in range(j)]
    return (-1) ** sum(order[i] > order[j] for i, j in pairs)


def table_of(first, second):
    """The resultant's table, place by place, as the document tells it."""
    m = len(first) - 1
    n = len(second) - 1
    table = [[0] * (m + n) for row in range(m + n)]
    for row in range(n):
        for power in range(m + 1):
            table[row][row + m - power] = first[power]
    for row in range(m):
        for power in range(n + 1):
            table[n + row][row + n - power] = second[power]
    return table


def determinant_by_orders(table):
    places = range(len(table))
    return sum(sign_of(order) * prod(table[i][order[i]] for i in places) for order in permutations(places))


def determinant_by_fractions(table):
    rows = [[Fraction(number) for number in row] for row in table]
    value = Fraction(1)
    while rows:
        lead = next((i for i, row in enumerate(rows) if row[0] != 0), None)
        if lead is None:
            return 0
        top = rows.pop(lead)
        value *= top[0] * (-1) ** lead
        rows = [[a - row[0] / top[0] * b for a, b in zip(row[1:], top[1:])] for row in rows]
    return value


def asked(first, second, call):
    """The call's answer, once it is sure that both polynomials were taken."""
    told_first, told_second, answer = ask(one(*first), two(*second), call)
    if told_first != [len(first)] + first or told_second != [len(second)] + second:
        raise AssertionError(f"{first} and {second} were told as {told_first} and {told_second}")
    return answer


def read_fractions(answer, place):
    """The fractions told from the place on, and where they end; each is checked to be in lowest terms."""
    end = place + 1 + 2 * answer[place]
    fractions = []
    for above, below in zip(answer[place + 1:end:2], answer[place + 2:end:2]):
        if below < 1 or gcd(above, below) != 1:
            raise AssertionError(f"{above} and {below} are not in lowest terms")
        fractions.append(Fraction(above, below))
    return fractions, end


class Laws(unittest.TestCase):
    def quotient_and_rest(self, first, second):
        answer = asked(first, second, DIVIDE)
        quotient, middle = read_fractions(answer, 0)
        rest, end = read_fractions(answer, middle)
        self.assertEqual(end, len(answer))
        for polynomial in (quotient, rest):
            self.assertFalse(polynomial and polynomial[-1] == 0)
        return quotient, rest

    def check_divided(self, first, second):
        quotient, rest = self.quotient_and_rest(first, second)
        self.assertLess(len(rest), len(second))
        self.assertEqual(plus(times(second, quotient), rest), first)

    def check_common(self, first, second):
        answer = asked(first, second, COMMON)
        divisor = answer[1:]
        self.assertEqual(answer[0], len(divisor))
        if not first and not second:
            self.assertEqual(divisor, [])
            return
        self.assertGreater(divisor[-1], 0)
        self.assertEqual(gcd(*divisor), 1)
        for polynomial in (first, second):
            self.assertEqual(self.quotient_and_rest(polynomial, divisor)[1], [])
        return divisor

    def test_products(self):
        numbers = Numbers(1)
        for turn in range(ROUNDS):
            first = numbers.polynomial()
            second = numbers.polynomial()
            expected = times(first, second)
            self.assertEqual(asked(first, second, TIMES), [len(expected)] + expected)

    def test_small_polynomials_divided(self):
        small = [[]] + [[a] for a in (-2, -1, 1, 2)] + [[a, b] for a in range(-2, 3) for b in (-2, -1, 1, 2)]
        small += [[a, b, c] for a, b in choices(range(-2, 3), repeat=2) for c in (-2, 1)]
        for first, second in choices(small, repeat=2):
            if second:
                self.check_divided(first, second)

    def test_polynomials_divided(self):
        numbers = Numbers(2)
        for turn in range(ROUNDS):
            first = numbers.polynomial()
            second = numbers.polynomial()
            if second:
                self.check_divided(first, second)

    def test_common_is_bare_and_divides_both(self):
        numbers = Numbers(3)
        for turn in range(ROUNDS):
            shared = numbers.polynomial(3, 3)
            first = times(shared, numbers.polynomial(3, 3))
            second = times(shared, numbers.polynomial(3, 3))
            divisor = self.check_common(first, second)
            if first and second:
                self.assertEqual(self.quotient_and_rest(divisor, shared)[1], [])

    def test_common_is_the_greatest(self):
        # Their roots are known, and so is what they have in common.
        for left in choices((-1, 0, 2), repeat=3):
            for right in choices((-1, 0, 2), repeat=2):
                expected = [1]
                for root in (-1, 0, 2):
                    for time in range(min(left.count(root), right.count(root))):
                        expected = times(expected, [-root, 1])
                answer = asked(from_roots(-2, left), from_roots(6, right), COMMON)
                self.assertEqual(answer, [len(expected)] + expected)

    def test_resultant_is_the_tables_determinant(self):
        numbers = Numbers(4)
        for turn in range(ROUNDS):
            first = numbers.polynomial()
            second = numbers.polynomial()
            expected = determinant_by_fractions(table_of(first, second)) if first and second else 0
            self.assertEqual(asked(first, second, RESULTANT), [0, expected])

    def test_resultant_with_many_zeros_within(self):
        # Zeros where a leading number is looked for.
        numbers = Numbers(5)
        for turn in range(ROUNDS):
            first = numbers.polynomial(6, 1)
            second = numbers.polynomial(6, 1)
            expected = determinant_by_fractions(table_of(first, second)) if first and second else 0
            self.assertEqual(asked(first, second, RESULTANT), [0, expected])

    def test_small_resultants_by_orders(self):
        numbers = Numbers(6)
        for turn in range(200):
            first = numbers.polynomial(4, 4)
            second = numbers.polynomial(3, 4)
            expected = determinant_by_orders(table_of(first, second)) if first and second else 0
            self.assertEqual(asked(first, second, RESULTANT), [0, expected])

    def test_resultant_by_roots(self):
        for left in choices((-2, 0, 1), repeat=2):
            for right in choices((-1, 1, 2), repeat=3):
                expected = 3 ** 3 * (-2) ** 2 * prod(a - b for a in left for b in right)
                answer = asked(from_roots(3, left), from_roots(-2, right), RESULTANT)
                self.assertEqual(answer, [0, expected])

    def test_resultant_is_0_just_if_there_is_something_in_common(self):
        numbers = Numbers(7)
        for turn in range(ROUNDS):
            first = numbers.polynomial(4, 2)
            second = numbers.polynomial(4, 2)
            if first and second:
                something = asked(first, second, COMMON)[0] > 1
                self.assertEqual(asked(first, second, RESULTANT)[1] == 0, something)

    def test_discriminant_by_roots(self):
        for lead in (-2, 1, 2):
            for count in (1, 2, 3):
                for roots in choices((-1, 0, 1, 2), repeat=count):
                    pairs = [(a, b) for place, a in enumerate(roots) for b in roots[:place]]
                    expected = lead ** (2 * count - 2) * prod((a - b) ** 2 for a, b in pairs)
                    self.assertEqual(asked(from_roots(lead, roots), [1], DISC), [0, expected])
        for roots in ((-2, -1, 0, 1), (-2, -1, 0, 1, 2), (-1, -1, 0, 1, 2)):
            pairs = [(a, b) for place, a in enumerate(roots) for b in roots[:place]]
            expected = prod((a - b) ** 2 for a, b in pairs)
            self.assertEqual(asked(from_roots(1, roots), [1], DISC), [0, expected])

    def test_discriminant_by_the_table(self):
        numbers = Numbers(8)
        for turn in range(ROUNDS):
            first = numbers.polynomial()
            high = len(first) - 1
            if high < 1:
                continue
            slope = [power * first[power] for power in range(1, high + 1)]
            expected = determinant_by_fractions(table_of(first, slope)) / first[-1]
            expected *= (-1) ** (high * (high - 1) // 2)
            self.assertEqual(asked(first, [1], DISC), [0, expected])


if __name__ == "__main__":
    unittest.main()
