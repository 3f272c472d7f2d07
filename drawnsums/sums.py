"""Sums of products of letters, always kept multiplied out.

A sum is a dict that is never changed once it is made. For each term it has the
term's number, never 0, under a key that packs the powers of the four letters.

constant and letter make the sum of a whole number and that of one letter.
power_in tells a letter's power in the term of a key, power_of that in a sum.
terms gives a sum's terms in order: of each its number, then its four powers;
flat_terms gives them one behind another.
most_in is the size of the greatest of all terms' numbers, common_in the greatest
number that divides them all, of these sums together. put is the sum where a letter
stands for v, comes_to the number where all letters stand for these values.
"""

# Letter 0 has the greatest place, so that greater keys are the terms that come
# first in order, and adding two keys adds the powers of each letter. Reaches
# stay below 200, so no power runs over into the next letter's place.
PLACES = (1000000000, 1000000, 1000, 1)
POWERS_BELOW = 1000


def constant(number):
    if number == 0:
        return {}
    return {0: number}


def letter(index):
    return {PLACES[index]: 1}


def is_nought(f):
    return len(f) == 0


def without_noughts(f):
    kept = {}
    for key, number in f.items():
        if number != 0:
            kept[key] = number
    return kept


def plus(f, g):
    total = dict(f)
    for key, number in g.items():
        total[key] = total.get(key, 0) + number
    return without_noughts(total)


def less(f, g):
    total = dict(f)
    for key, number in g.items():
        total[key] = total.get(key, 0) - number
    return without_noughts(total)


def times(f, g):
    total = {}
    for key, number in f.items():
        for other, factor in g.items():
            total[key + other] = total.get(key + other, 0) + number * factor
    return without_noughts(total)


def power_in(key, index):
    return key // PLACES[index] % POWERS_BELOW


def terms(f):
    rows = []
    for key in sorted(f, reverse=True):
        rows.append((f[key], power_in(key, 0), power_in(key, 1), power_in(key, 2), power_in(key, 3)))
    return rows


def flat_terms(f):
    row = []
    for term in terms(f):
        row.extend(term)
    return row


def power_of(f, index):
    return max([power_in(key, index) for key in f], default=0)


def most_in(f):
    return max([abs(number) for number in f.values()], default=0)


def common_in(sums):
    greatest = 0
    for f in sums:
        for number in f.values():
            greatest = common_of_two(greatest, abs(number))
    return greatest


def common_of_two(number, other):
    while other != 0:
        rest = number % other
        number = other
        other = rest
    return number


def put(f, index, v):
    total = {}
    for key, number in f.items():
        power = power_in(key, index)
        without = key - power * PLACES[index]
        total[without] = total.get(without, 0) + number * raised(v, power)
    return without_noughts(total)


def raised(v, power):
    product = 1
    for factor in range(power):
        product *= v
    return product


def comes_to(f, values):
    for index, v in enumerate(values):
        f = put(f, index, v)
    return f.get(0, 0)
