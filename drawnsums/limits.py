"""What a step takes and brings, and how far it may go, by the step's kind.

numbers_fit tells whether m and n of fixed or part are within their bounds.
heavy_by and reach_by are for the point that a step draws from these sources; its
own letters are numbered from first_letter on. places are the reaches, each one
more, multiplied.
"""

from drawnsums.steps import FIXED, PART

MOST_POINTS = 12
MOST_LETTERS = 4
MOST_HEAVY = 400
MOST_PLACES = 200

# How often each point of the step counts in what is new. It is the same for how
# heavy the new point is as for every letter's reach.
WEIGHTS = (
    (),
    (),
    (1, 1),
    (1, 1),
    (1, 1, 1),
    (1, 1, 1, 1),
    (1, 2, 2),
    (1, 2, 2),
    (1, 1),
    (2, 2, 2),
    (3, 2, 1),
    (1, 1),
    (3, 2, 2),
)
OWN_LETTERS = (0, 2, 1, 0, 0, 0, 0, 0, 0, 0, 0, 1, 0)
OWN_REACH = (0, 1, 1, 0, 0, 0, 0, 0, 0, 0, 0, 2, 0)
OWN_HEAVY = (1, 1, 1, 0, 0, 0, 0, 0, 0, 0, 0, 2, 0)


def count_of_points(kind):
    return len(WEIGHTS[kind])


def numbers_fit(kind, numbers):
    if kind == FIXED:
        return abs(numbers[0]) <= 1000 and abs(numbers[1]) <= 1000
    if kind == PART:
        return abs(numbers[0]) <= 100 and 1 <= numbers[1] <= 100
    return True


def heavy_by(kind, sources):
    total = OWN_HEAVY[kind]
    for weight, point in zip(WEIGHTS[kind], sources):
        total += weight * point.heavy
    return total


def reach_by(kind, sources, first_letter):
    totals = [0] * MOST_LETTERS
    for weight, point in zip(WEIGHTS[kind], sources):
        for index, power in enumerate(point.reach):
            totals[index] += weight * power
    for index in range(first_letter, first_letter + OWN_LETTERS[kind]):
        totals[index] += OWN_REACH[kind]
    return totals


def places(reach):
    product = 1
    for power in reach:
        product *= power + 1
    return product
