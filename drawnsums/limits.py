"""What a step takes and brings, what a saying takes, and how far they may go.

value_fits is for what a letter stands for, numbers_fit for m and n of fixed or part.
heavy_by and reach_by are for the point that a step draws from these sources; its
own letters are numbered from first_letter on. places are the reaches, each one
more, multiplied.

saying_fits tells whether there is such a kind of saying, and these are as many
numbers as it takes, with m and n of times within their bounds. reach_in is for the
saying of these sources.
"""

from drawnsums.steps import FIXED, PART

MOST_POINTS = 12
MOST_LETTERS = 4
MOST_HEAVY = 400
MOST_PLACES = 200
MOST_VALUE = 1000
MOST_TOLD = 1000000000000000

# How often each point of the step counts in what is new. It is the same for how
# heavy the new point is as for every letter's reach.
WEIGHTS = (
    (),
    (),
    (1, 1),
    (1, 1),
    (1, 1, 1),
    (1, 1, 1, 1),
    (1, 2, 2),
    (1, 2, 2),
    (1, 1),
    (2, 2, 2),
    (3, 2, 1),
    (1, 1),
    (3, 2, 2),
)
OWN_LETTERS = (0, 2, 1, 0, 0, 0, 0, 0, 0, 0, 0, 1, 0)
OWN_REACH = (0, 1, 1, 0, 0, 0, 0, 0, 0, 0, 0, 2, 0)
OWN_HEAVY = (1, 1, 1, 0, 0, 0, 0, 0, 0, 0, 0, 2, 0)

# How often each point of a saying counts in every letter's reach in it.
SAYING_WEIGHTS = (
    (1, 1),
    (1, 1, 1),
    (1, 1, 1, 1),
    (1, 1, 1, 1),
    (2, 2, 2, 2),
    (2, 2, 2, 2),
    (2, 2, 2, 2),
    (1, 2, 1, 1, 2, 1),
    (1, 1, 1, 1, 1, 1),
    (1, 1, 1, 1, 1, 1),
    (1, 1, 1),
    (2, 2, 2, 2),
    (1, 1, 1, 1, 1, 1),
)
SAYING_NUMBERS = (0, 0, 0, 0, 0, 2, 0, 0, 0, 0, 0, 0, 0)


def count_of_points(kind):
    return len(WEIGHTS[kind])


def value_fits(number):
    return abs(number) <= MOST_VALUE


def numbers_fit(kind, numbers):
    if kind == FIXED:
        return value_fits(numbers[0]) and value_fits(numbers[1])
    if kind == PART:
        return abs(numbers[0]) <= 100 and 1 <= numbers[1] <= 100
    return True


def heavy_by(kind, sources):
    total = OWN_HEAVY[kind]
    for weight, point in zip(WEIGHTS[kind], sources):
        total += weight * point.heavy
    return total


def reach_by(kind, sources, first_letter):
    totals = weighted_reach(WEIGHTS[kind], sources)
    for index in range(first_letter, first_letter + OWN_LETTERS[kind]):
        totals[index] += OWN_REACH[kind]
    return totals


def weighted_reach(weights, sources):
    totals = [0] * MOST_LETTERS
    for weight, point in zip(weights, sources):
        for index, power in enumerate(point.reach):
            totals[index] += weight * power
    return totals


def places(reach):
    product = 1
    for power in reach:
        product *= power + 1
    return product


def points_in_saying(kind):
    return len(SAYING_WEIGHTS[kind])


def saying_fits(kind, its):
    if not 0 <= kind < len(SAYING_WEIGHTS):
        return False
    count = points_in_saying(kind)
    if len(its) != count + SAYING_NUMBERS[kind]:
        return False
    return all([1 <= number <= 1000 for number in its[count:]])


def reach_in(kind, sources):
    return weighted_reach(SAYING_WEIGHTS[kind], sources)
