"""The calls about two polynomials, and how they and their answers stand in a list of whole numbers."""

from apartpolynomials.algebra import (
    circle,
    degree,
    discriminant,
    divided,
    greatest_common,
    is_zero,
    lowest_terms,
    product,
    resultant,
    square_free,
    value_at,
    without_last_zeros,
)
from apartpolynomials.parts import counted_parts, is_irreducible, rational_roots, whole_number

CALL_ONE = 0
CALL_TWO = 1
CALL_CIRCLE = 11
CALL_VALUE = 12

REFUSED_NUMBERS = -1
REFUSED_DEGREE = -5
REFUSED_POLYNOMIAL = -6
REFUSED_ZERO = -6

MOST_NUMBERS = 6
HIGHEST_HANDED = 60
HIGHEST_DEGREE = 5
HIGHEST_CIRCLE = 30
LARGEST_TAKEN_APART = 12


class Line:
    """The two polynomials that the calls of one list are about."""

    def __init__(self):
        self.first = [0, 1]
        self.second = [1]


def number_handed(handed):
    if handed % 2 == 0:
        return handed // 2
    return -((handed + 1) // 2)


def polynomial_handed(numbers):
    return without_last_zeros([number_handed(handed) for handed in numbers])


def may_be_taken(numbers):
    """0s at the end count here: both bounds are about what is handed over."""
    return len(numbers) <= MOST_NUMBERS and max(numbers, default=0) <= HIGHEST_HANDED


def shown(polynomial):
    return [len(polynomial)] + polynomial


def fractions_shown(numbers, below):
    """How many there are; then each, divided by below, in lowest terms."""
    answer = [len(numbers)]
    for number in numbers:
        answer.extend(lowest_terms(number, below))
    return answer


def answer_one(line, numbers):
    if not may_be_taken(numbers):
        return [REFUSED_NUMBERS]
    line.first = polynomial_handed(numbers)
    return shown(line.first)


def answer_two(line, numbers):
    if not may_be_taken(numbers):
        return [REFUSED_NUMBERS]
    line.second = polynomial_handed(numbers)
    return shown(line.second)


def answer_times(line):
    return shown(product(line.first, line.second))


def answer_divide(line):
    if is_zero(line.second):
        return [REFUSED_ZERO]
    parts = divided(line.first, line.second)
    scale = parts[2]
    return fractions_shown(parts[0], scale) + fractions_shown(parts[1], scale)


def answer_common(line):
    return shown(greatest_common(line.first, line.second))


def answer_resultant(line):
    if max(degree(line.first), degree(line.second)) > HIGHEST_DEGREE:
        return [REFUSED_DEGREE]
    return [0, resultant(line.first, line.second)]


def answer_disc(line):
    if degree(line.first) < 1:
        return [REFUSED_ZERO]
    if degree(line.first) > HIGHEST_DEGREE:
        return [REFUSED_DEGREE]
    return [0, discriminant(line.first)]


def may_be_taken_apart(polynomial):
    """Of 0 too: whether 0 is let is for each call to say."""
    largest = max([abs(number) for number in polynomial], default=0)
    return degree(polynomial) <= HIGHEST_DEGREE and largest <= LARGEST_TAKEN_APART


def answer_apart(line):
    if is_zero(line.first) or not may_be_taken_apart(line.first):
        return [REFUSED_POLYNOMIAL]
    counted = counted_parts(line.first)
    answer = [0, whole_number(line.first), len(counted)]
    for often, part in counted:
        answer.append(often)
        answer.extend(shown(part))
    return answer


def answer_irreducible(line):
    if not may_be_taken_apart(line.first):
        return [REFUSED_POLYNOMIAL]
    if is_irreducible(line.first):
        return [1]
    return [0]


def answer_rationals(line):
    if is_zero(line.first) or not may_be_taken_apart(line.first):
        return [REFUSED_POLYNOMIAL]
    roots = rational_roots(line.first)
    answer = [len(roots)]
    for root in roots:
        answer.extend(root)
    return answer


def answer_squarefree(line):
    if is_zero(line.first):
        return [REFUSED_ZERO]
    return shown(square_free(line.first))


def answer_circle(line, place):
    if place < 1 or place > HIGHEST_CIRCLE:
        return [REFUSED_NUMBERS]
    line.first = circle(place)
    return shown(line.first)


def answer_value(line, handed, below):
    if below == 0:
        return [REFUSED_ZERO]
    return value_at(line.first, number_handed(handed), below)


def answer_swap(line):
    first = line.first
    line.first = line.second
    line.second = first
    return shown(line.first)


PLAIN_CALLS = {
    2: answer_times,
    3: answer_divide,
    4: answer_common,
    5: answer_resultant,
    6: answer_disc,
    7: answer_apart,
    8: answer_irreducible,
    9: answer_rationals,
    10: answer_squarefree,
    13: answer_swap,
}


def call_end(calls, place):
    if calls[place] == CALL_ONE or calls[place] == CALL_TWO:
        return place + 2 + calls[place + 1]
    if calls[place] == CALL_CIRCLE:
        return place + 2
    if calls[place] == CALL_VALUE:
        return place + 3
    return place + 1


def answer_call(line, call):
    if call[0] == CALL_ONE:
        return answer_one(line, call[2:])
    if call[0] == CALL_TWO:
        return answer_two(line, call[2:])
    if call[0] == CALL_CIRCLE:
        return answer_circle(line, call[1])
    if call[0] == CALL_VALUE:
        return answer_value(line, call[1], call[2])
    return PLAIN_CALLS[call[0]](line)


def answers(calls):
    line = Line()
    answered = []
    place = 0
    while place < len(calls):
        end = call_end(calls, place)
        answer = answer_call(line, calls[place:end])
        answered.append(len(answer))
        answered.extend(answer)
        place = end
    return answered
