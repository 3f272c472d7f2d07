"""Sums of products of letters, always kept multiplied out.

A sum is a dict that is never changed once it is made. For each term it has the
term's number, never 0, under a key that packs the powers of the four letters.

constant and letter make the sum of a whole number and that of one letter.
power_in tells a letter's power in the term of a key. terms gives a sum's terms in
order: of each its number, then its four powers.
"""

# Letter 0 has the greatest place, so that greater keys are the terms that come
# first in order, and adding two keys adds the powers of each letter. Reaches
# stay below 200, so no power runs over into the next letter's place.
PLACES = (1000000000, 1000000, 1000, 1)
POWERS_BELOW = 1000


def constant(number):
    if number == 0:
        return {}
    return {0: number}


def letter(index):
    return {PLACES[index]: 1}


def is_nought(f):
    return len(f) == 0


def without_noughts(f):
    kept = {}
    for key, number in f.items():
        if number != 0:
            kept[key] = number
    return kept


def plus(f, g):
    total = dict(f)
    for key, number in g.items():
        total[key] = total.get(key, 0) + number
    return without_noughts(total)


def less(f, g):
    total = dict(f)
    for key, number in g.items():
        total[key] = total.get(key, 0) - number
    return without_noughts(total)


def times(f, g):
    total = {}
    for key, number in f.items():
        for other, factor in g.items():
            total[key + other] = total.get(key + other, 0) + number * factor
    return without_noughts(total)


def power_in(key, index):
    return key // PLACES[index] % POWERS_BELOW


def terms(f):
    rows = []
    for key in sorted(f, reverse=True):
        rows.append((f[key], power_in(key, 0), power_in(key, 1), power_in(key, 2), power_in(key, 3)))
    return rows
