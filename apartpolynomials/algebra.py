"""Polynomials of whole numbers: what can be reckoned with them.

A polynomial is a list of whole numbers, that of the power 0 first, the last
of which isn't 0; the polynomial 0 is the empty list. No function here changes
what it is given.
"""


def without_last_zeros(numbers):
    length = len(numbers)
    while length > 0 and numbers[length - 1] == 0:
        length -= 1
    return numbers[:length]


def is_zero(polynomial):
    return len(polynomial) == 0


def degree(polynomial):
    return len(polynomial) - 1


def product(first, second):
    if is_zero(first) or is_zero(second):
        return []
    numbers = [0] * (len(first) + len(second) - 1)
    for left_power, left in enumerate(first):
        for right_power, right in enumerate(second):
            numbers[left_power + right_power] += left * right
    return numbers


def greatest_divisor(left, right):
    larger = abs(left)
    smaller = abs(right)
    while smaller != 0:
        rest = larger % smaller
        larger = smaller
        smaller = rest
    return larger


def divisors(number):
    """Those above 0 of a number that isn't 0, rising."""
    size = abs(number)
    return [divisor for divisor in range(1, size + 1) if size % divisor == 0]


def lowest_terms(above, below):
    divisor = greatest_divisor(above, below)
    if below < 0:
        divisor = -divisor
    return [above // divisor, below // divisor]


def bare(polynomial):
    """The bare one that is a fraction times the given one; 0 stays 0."""
    if is_zero(polynomial):
        return []
    divisor = 0
    for number in polynomial:
        divisor = greatest_divisor(divisor, number)
    if polynomial[-1] < 0:
        divisor = -divisor
    return [number // divisor for number in polynomial]


def less_multiple(polynomial, factor, other):
    """What is left when factor times other, moved up to the same degree, is taken away."""
    shift = len(polynomial) - len(other)
    lower = polynomial[:shift]
    return lower + [left - factor * right for left, right in zip(polynomial[shift:], other)]


def divided(first, second):
    """Whole quotient, rest and scale, so that scale times first is second times quotient, and the rest.

    The second isn't 0. Each step makes all the last number of the second times
    as large, so that no fraction comes up; the scale tells how large all is.
    """
    lead = second[-1]
    quotient = []
    rest = first
    scale = 1
    while len(rest) >= len(second):
        top = rest[-1]
        larger = [lead * number for number in rest]
        # One number falls away a step, not all 0s, so that no power is left out of the quotient.
        rest = less_multiple(larger, top, second)[:-1]
        quotient = [top] + [lead * number for number in quotient]
        scale = scale * lead
    return (quotient, without_last_zeros(rest), scale)


def greatest_common(first, second):
    larger = bare(first)
    smaller = bare(second)
    while not is_zero(smaller):
        # A bare rest has the same divisors over the fractions, and its numbers stay small.
        rest = bare(divided(larger, smaller)[1])
        larger = smaller
        smaller = rest
    return larger


def find_row(rows, column):
    """The first row, from the one with the column's place on, that isn't 0 there; else how many rows there are."""
    place = column
    while place < len(rows) and rows[place][column] == 0:
        place += 1
    return place


def cleared_row(row, top_row, column, before):
    """The row with 0 in the column. Before is the leading number of the step before: divided by it, no rest is left."""
    lead = top_row[column]
    factor = row[column]
    return [(lead * left - factor * right) // before for left, right in zip(row, top_row)]


def determinant(table):
    """Bareiss's way, which keeps to whole numbers."""
    rows = list(table)
    sign = 1
    before = 1
    for column in range(len(table)):
        place = find_row(rows, column)
        if place == len(rows):
            return 0
        top_row = rows[place]
        if place != column:
            rows[place] = rows[column]
            sign = -sign
        done = rows[:column] + [top_row]
        rows = done + [cleared_row(row, top_row, column, before) for row in rows[column + 1:]]
        before = top_row[column]
    return sign * before


def shifted_rows(polynomial, count, width):
    numbers = list(reversed(polynomial))
    space = width - len(numbers)
    return [[0] * place + numbers + [0] * (space - place) for place in range(count)]


def resultant(first, second):
    if is_zero(first) or is_zero(second):
        return 0
    width = degree(first) + degree(second)
    upper = shifted_rows(first, degree(second), width)
    lower = shifted_rows(second, degree(first), width)
    return determinant(upper + lower)


def slope(polynomial):
    return [power * number for power, number in enumerate(polynomial)][1:]


def discriminant(polynomial):
    """Of one of degree 1 or more."""
    high = degree(polynomial)
    number = resultant(polynomial, slope(polynomial)) // polynomial[-1]
    if high * (high - 1) // 2 % 2 == 1:
        return -number
    return number


def square_free(polynomial):
    """Of one that isn't 0. A part that is there several times is in the slope just once less often."""
    surplus = greatest_common(polynomial, slope(polynomial))
    return bare(divided(polynomial, surplus)[0])


def value_at(polynomial, above, below):
    """The value for above divided by below, as a fraction."""
    total = 0
    scale = 1
    for number in reversed(polynomial):
        scale = scale * below
        total = total * above + number * scale
    return lowest_terms(total, scale)


def power_less_1(power):
    return [-1] + [0] * (power - 1) + [1]


def circle(place):
    """The circle's for the place. Their last numbers are 1, so that all quotients are whole as they stand."""
    known = {}
    for divisor in divisors(place):
        rest = power_less_1(divisor)
        for smaller in divisors(divisor)[:-1]:
            rest = divided(rest, known[smaller])[0]
        known[divisor] = rest
    return known[place]
