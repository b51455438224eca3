"""Polynomials of a degree of at most 5, taken apart into irreducible ones.

A polynomial stands as in algebra.py. Each part that is looked for divides the
polynomial with a whole quotient, so its last number, its number of the power 0
and its value for 1 divide those of the polynomial: there are few to be tried.
"""

from apartpolynomials.algebra import bare, degree, divided, divisors, is_zero, lowest_terms


def signed_divisors(number):
    rising = divisors(number)
    return rising + [-divisor for divisor in rising]


def divides(part, polynomial):
    return is_zero(divided(polynomial, part)[1])


def part_of_degree_1(polynomial):
    """The first that is found, else 0. The number of the power 0 isn't 0."""
    for last in divisors(polynomial[-1]):
        for lowest in signed_divisors(polynomial[0]):
            part = [lowest, last]
            if divides(part, polynomial):
                return bare(part)
    return []


def part_of_degree_2(polynomial):
    """The first that is found, else 0. There is no part of degree 1, so neither value for 0 and 1 is 0."""
    for last in divisors(polynomial[-1]):
        for lowest in signed_divisors(polynomial[0]):
            for value in signed_divisors(sum(polynomial)):
                part = [lowest, value - lowest - last, last]
                if divides(part, polynomial):
                    return bare(part)
    return []


def lowest_part(polynomial):
    """An irreducible part of the lowest degree, of a bare one of degree 1 to 5."""
    if polynomial[0] == 0:
        return [0, 1]
    part = []
    # Of two parts one has at most half the degree.
    if degree(polynomial) >= 2:
        part = part_of_degree_1(polynomial)
    if is_zero(part) and degree(polynomial) >= 4:
        part = part_of_degree_2(polynomial)
    if is_zero(part):
        return polynomial
    return part


def all_parts(polynomial):
    """The bare irreducible parts, each as often as it is there."""
    found = []
    rest = bare(polynomial)
    while degree(rest) > 0:
        part = lowest_part(rest)
        found.append(part)
        rest = bare(divided(rest, part)[0])
    return found


def degree_and_numbers(part):
    return [degree(part)] + part


def counted_parts(polynomial):
    """The different parts in order, each with how often it is there ahead of it."""
    found = all_parts(polynomial)
    different = []
    for part in sorted(found, key=degree_and_numbers):
        if part not in different:
            different.append(part)
    return [(found.count(part), part) for part in different]


def whole_number(polynomial):
    """What the parts are to be multiplied by, of a polynomial that isn't 0."""
    return polynomial[-1] // bare(polynomial)[-1]


def is_irreducible(polynomial):
    return len(all_parts(polynomial)) == 1


def rational_roots(polynomial):
    """The fractions that are roots of a polynomial that isn't 0, rising."""
    roots = [lowest_terms(-part[0], part[1]) for often, part in counted_parts(polynomial) if degree(part) == 1]
    # What is below the line divides the last number, so that many times a root is whole.
    scale = abs(polynomial[-1])
    return sorted(roots, key=lambda root: root[0] * (scale // root[1]))
