"""What the tests share: calls written by name, and their answers one by one."""

from apartpolynomials.polynomials import answers

TIMES = [2]
DIVIDE = [3]
COMMON = [4]
RESULTANT = [5]
DISC = [6]


def handed(number):
    return 2 * number if number >= 0 else -2 * number - 1


def one_as_handed(*numbers):
    return [0, len(numbers), *numbers]


def two_as_handed(*numbers):
    return [1, len(numbers), *numbers]


def one(*numbers):
    return one_as_handed(*[handed(number) for number in numbers])


def two(*numbers):
    return two_as_handed(*[handed(number) for number in numbers])


def ask(*calls):
    """The answer to each of the calls, which are asked as one list."""
    given = answers([number for call in calls for number in call])
    single = []
    place = 0
    while place < len(given):
        end = place + 1 + given[place]
        single.append(given[place + 1:end])
        place = end
    if place != len(given) or len(single) != len(calls):
        raise AssertionError(f"{len(calls)} calls, answered by {given}")
    return single


def ask_last(*calls):
    return ask(*calls)[-1]


class Numbers:
    """Whole numbers that look unordered and are the same each time."""

    def __init__(self, seed):
        self.state = seed

    def upto(self, most):
        self.state = (self.state * 6364136223846793005 + 1442695040888963407) % 2 ** 64
        return (self.state >> 33) % (most + 1)

    def between(self, least, most):
        return least + self.upto(most - least)

    def polynomial(self, most_numbers=6, largest=30):
        numbers = [self.between(-largest, largest) for place in range(self.upto(most_numbers))]
        while numbers and numbers[-1] == 0:
            numbers.pop()
        return numbers
