"""Many polynomials taken apart, with answers held against laws and against other ways to the same."""

import unittest
from fractions import Fraction
from itertools import combinations, product as choices
from math import gcd

from support import (
    APART, IRREDUCIBLE, RATIONALS, SQUAREFREE,
    Numbers, ask, ask_last, circle, from_roots, one, parts_told, times, value_as_handed,
)


def value_of(polynomial, at):
    return sum(number * at ** power for power, number in enumerate(polynomial))


def quotient(polynomial, part):
    """The whole quotient, or None if a rest or a fraction comes up."""
    rest = list(polynomial)
    numbers = []
    while len(rest) >= len(part):
        if rest[-1] % part[-1] != 0:
            return None
        factor = rest[-1] // part[-1]
        numbers.insert(0, factor)
        for place in range(len(part)):
            rest[len(rest) - len(part) + place] -= factor * part[place]
        rest.pop()
    return None if any(rest) else numbers


def complex_roots(polynomial):
    """All roots at once, by Durand's and Kerner's way."""
    count = len(polynomial) - 1
    size = 1 + max(abs(number / polynomial[-1]) for number in polynomial)
    roots = [size * (0.4 + 0.9j) ** power for power in range(count)]
    for turn in range(300):
        step = 0
        for place, root in enumerate(roots):
            below = complex(polynomial[-1])
            for other in roots[:place] + roots[place + 1:]:
                below *= root - other
            change = value_of(polynomial, root) / below
            roots[place] = root - change
            step = max(step, abs(change))
        if step < 1e-13:
            break
    return roots


def part_by_roots(polynomial):
    """A part that is found by putting together some of the roots, or None."""
    roots = complex_roots(polynomial)
    leads = [lead for lead in range(1, polynomial[-1] + 1) if polynomial[-1] % lead == 0]
    for count in range(1, (len(polynomial) - 1) // 2 + 1):
        for chosen in combinations(roots, count):
            for lead in leads:
                part = [round(number.real) for number in from_roots(complex(lead), chosen)]
                if quotient(polynomial, part) is not None:
                    return part
    return None


def fraction_roots(polynomial):
    """Those with 12 at most above and below the line: with such numbers there are no others."""
    all_of_them = {Fraction(above, below) for above in range(-12, 13) for below in range(1, 13)}
    return [root for root in sorted(all_of_them) if value_of(polynomial, root) == 0]


def small_product(numbers):
    """A product of few small polynomials, with a degree of 5 and numbers of 12 at most; else None."""
    whole = [numbers.between(1, 3) * (-1) ** numbers.upto(1)]
    for turn in range(numbers.between(1, 3)):
        factor = numbers.polynomial(4, 3)
        for time in range(numbers.between(1, 2)):
            whole = times(whole, factor)
    if whole and len(whole) <= 6 and max(abs(number) for number in whole) <= 12:
        return whole
    return None


class Laws(unittest.TestCase):
    def check_taken_apart(self, polynomial):
        told, apart, irreducible, rationals, squarefree = ask(
            one(*polynomial), APART, IRREDUCIBLE, RATIONALS, SQUAREFREE,
        )
        self.assertEqual(told, [len(polynomial), *polynomial])
        whole, parts = parts_told(apart)
        self.check_parts(polynomial, whole, parts)
        self.assertEqual(irreducible, [1 if [often for often, part in parts] == [1] else 0], polynomial)
        once = [1]
        for often, part in parts:
            once = times(once, part)
        self.assertEqual(squarefree, [len(once), *once])
        self.check_roots(parts, rationals)

    def check_parts(self, polynomial, whole, parts):
        again = [whole]
        for often, part in parts:
            self.assertGreaterEqual(often, 1)
            self.assertGreaterEqual(len(part), 2)
            self.assertGreater(part[-1], 0)
            self.assertEqual(gcd(*part), 1)
            self.assertIsNone(part_by_roots(part), (polynomial, part))
            for time in range(often):
                again = times(again, part)
        self.assertEqual(again, polynomial)
        order = [(len(part), part) for often, part in parts]
        self.assertEqual(order, sorted(order))
        self.assertEqual(len(order), len({(length, *part) for length, part in order}))

    def check_roots(self, parts, rationals):
        roots = sorted(Fraction(-part[0], part[1]) for often, part in parts if len(part) == 2)
        expected = [len(roots)]
        for root in roots:
            expected += [root.numerator, root.denominator]
        self.assertEqual(rationals, expected)

    def test_all_of_a_degree_up_to_3_with_small_numbers(self):
        for numbers in choices(range(-2, 3), repeat=4):
            polynomial = list(numbers)
            while polynomial and polynomial[-1] == 0:
                polynomial.pop()
            if polynomial:
                self.check_taken_apart(polynomial)

    def test_all_of_degree_5_with_numbers_up_to_1(self):
        for numbers in choices((-1, 0, 1), repeat=5):
            self.check_taken_apart([*numbers, 1])

    def test_products_of_small_ones(self):
        numbers = Numbers(11)
        checked = 0
        while checked < 1500:
            polynomial = small_product(numbers)
            if polynomial is not None:
                self.check_taken_apart(polynomial)
                checked += 1

    def test_others(self):
        numbers = Numbers(12)
        for turn in range(300):
            polynomial = numbers.polynomial(6, 12)
            if polynomial:
                self.check_taken_apart(polynomial)

    def check_products_of_two(self, numbers, left_degree, right_degree):
        checked = 0
        while checked < 300:
            left = [numbers.between(-4, 4) for power in range(left_degree)] + [numbers.between(1, 4)]
            right = [numbers.between(-4, 4) for power in range(right_degree)] + [numbers.between(1, 4)]
            polynomial = times(left, right)
            if max(abs(number) for number in polynomial) <= 12:
                self.check_taken_apart(polynomial)
                checked += 1

    def test_two_of_degree_2(self):
        self.check_products_of_two(Numbers(13), 2, 2)

    def test_a_degree_of_2_and_a_degree_of_3(self):
        self.check_products_of_two(Numbers(14), 2, 3)

    def test_roots_are_those_that_make_it_0(self):
        numbers = Numbers(15)
        checked = 0
        while checked < 300:
            polynomial = small_product(numbers)
            if polynomial is not None:
                roots = fraction_roots(polynomial)
                expected = [len(roots)]
                for root in roots:
                    expected += [root.numerator, root.denominator]
                self.assertEqual(ask_last(one(*polynomial), RATIONALS), expected)
                checked += 1

    def test_squarefree_by_roots(self):
        for lead in (-2, 1, 3):
            for count in range(6):
                for roots in choices((-1, 0, 1), repeat=count):
                    once = from_roots(1, sorted(set(roots)))
                    self.assertEqual(ask_last(one(*from_roots(lead, roots)), SQUAREFREE), [len(once), *once])

    def test_values(self):
        numbers = Numbers(16)
        for turn in range(1000):
            polynomial = numbers.polynomial()
            handed = numbers.upto(4294967295 >> numbers.upto(31))
            below = 1 + numbers.upto(4294967294 >> numbers.upto(31))
            above = handed // 2 if handed % 2 == 0 else -(handed + 1) // 2
            expected = Fraction(value_of(polynomial, Fraction(above, below)))
            answer = ask_last(one(*polynomial), value_as_handed(handed, below))
            self.assertEqual(answer, [expected.numerator, expected.denominator])

    def test_values_of_circles(self):
        numbers = Numbers(17)
        for n in range(1, 31):
            above = numbers.upto(2147483647)
            below = 1 + numbers.upto(4294967294)
            told, answer = ask(circle(n), value_as_handed(2 * above, below))
            expected = Fraction(value_of(told[1:], Fraction(above, below)))
            self.assertEqual(answer, [expected.numerator, expected.denominator])


if __name__ == "__main__":
    unittest.main()
