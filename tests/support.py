"""What the tests share: calls written by name, and their answers one by one."""

from apartpolynomials.polynomials import answers

TIMES = [2]
DIVIDE = [3]
COMMON = [4]
RESULTANT = [5]
DISC = [6]
APART = [7]
IRREDUCIBLE = [8]
RATIONALS = [9]
SQUAREFREE = [10]
SWAP = [13]


def handed(number):
    return 2 * number if number >= 0 else -2 * number - 1


def one_as_handed(*numbers):
    return [0, len(numbers), *numbers]


def two_as_handed(*numbers):
    return [1, len(numbers), *numbers]


def one(*numbers):
    return one_as_handed(*[handed(number) for number in numbers])


def two(*numbers):
    return two_as_handed(*[handed(number) for number in numbers])


def circle(n):
    return [11, n]


def value_as_handed(a, b):
    return [12, a, b]


def value(a, b):
    return value_as_handed(handed(a), b)


# None of these changes one of the two polynomials.
EVERY_READER = [
    TIMES, DIVIDE, COMMON, RESULTANT, DISC, APART, IRREDUCIBLE, RATIONALS, SQUAREFREE, value(-2, 3),
]
# With these, all that can be seen of both polynomials is seen.
ALL_THERE_IS = [*EVERY_READER, SWAP, *EVERY_READER]


def ask(*calls):
    """The answer to each of the calls, which are asked as one list."""
    given = answers([number for call in calls for number in call])
    single = []
    place = 0
    while place < len(given):
        end = place + 1 + given[place]
        single.append(given[place + 1:end])
        place = end
    if place != len(given) or len(single) != len(calls):
        raise AssertionError(f"{len(calls)} calls, answered by {given}")
    return single


def ask_last(*calls):
    return ask(*calls)[-1]


def told_of_both(*calls):
    """What is answered about both polynomials behind the calls."""
    return ask(*calls, *ALL_THERE_IS)[len(calls):]


def parts_told(answer):
    """The whole number, and (how often, part) of each part, of an answer of apart."""
    start, whole, count = answer[:3]
    parts = []
    place = 3
    while place < len(answer):
        end = place + 2 + answer[place + 1]
        parts.append((answer[place], answer[place + 2:end]))
        place = end
    if start != 0 or place != len(answer) or len(parts) != count:
        raise AssertionError(f"{answer} is not told as parts")
    return whole, parts


def times(left, right):
    numbers = [0] * max(len(left) + len(right) - 1, 0)
    for i, a in enumerate(left):
        for j, b in enumerate(right):
            numbers[i + j] += a * b
    return numbers if left and right else []


def from_roots(lead, roots):
    numbers = [lead]
    for root in roots:
        numbers = times(numbers, [-root, 1])
    return numbers


class Numbers:
    """Whole numbers that look unordered and are the same each time."""

    def __init__(self, seed):
        self.state = seed

    def upto(self, most):
        self.state = (self.state * 6364136223846793005 + 1442695040888963407) % 2 ** 64
        return (self.state >> 33) % (most + 1)

    def between(self, least, most):
        return least + self.upto(most - least)

    def polynomial(self, most_numbers=6, largest=30):
        numbers = [self.between(-largest, largest) for place in range(self.upto(most_numbers))]
        while numbers and numbers[-1] == 0:
            numbers.pop()
        return numbers
