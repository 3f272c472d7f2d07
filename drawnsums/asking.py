"""Asking what is left of a saying: holds, rests, rest, power, at, is, goes.

asked gives what is answered of such a call. refusal_of is what all of them are
refused for, or 0.
"""

from drawnsums.limits import MOST_PLACES, MOST_TOLD, places, points_in_saying, reach_in, saying_fits, value_fits
from drawnsums.looking import told_terms
from drawnsums.reading import AT, HOLDS, IS, POWER, REST, RESTS
from drawnsums.refusals import DOES_NOT_FIT, NOT_THERE, TOO_MUCH
from drawnsums.sayings import left
from drawnsums.sums import comes_to, flat_terms, is_nought, power_of, put


def asked(figure, call):
    kind = call.told[0]
    its = call.rows[0]
    refusal = refusal_of(figure, kind, its)
    if refusal != 0:
        return [refusal]
    sums = left(kind, named_points(figure, kind, its) + its[points_in_saying(kind):])
    if call.number == HOLDS:
        return [yes_or_no(all([is_nought(f) for f in sums]))]
    if call.number == RESTS:
        return [len(sums)] + [len(f) for f in sums]
    if call.number == POWER:
        return power(figure, sums, call.told[1])
    return asked_of_one(figure, sums, call)


def refusal_of(figure, kind, its):
    if not saying_fits(kind, its):
        return DOES_NOT_FIT
    if not all([figure.has_point(p) for p in its[:points_in_saying(kind)]]):
        return NOT_THERE
    # As with a step, this keeps multiplying out short.
    if places(reach_in(kind, named_points(figure, kind, its))) > MOST_PLACES:
        return TOO_MUCH
    return 0


def named_points(figure, kind, its):
    return [figure.points[p] for p in its[:points_in_saying(kind)]]


def yes_or_no(verdict):
    return 1 if verdict else 0


def power(figure, sums, index):
    if not figure.has_letter(index):
        return [NOT_THERE]
    return [max([power_of(f, index) for f in sums])]


def asked_of_one(figure, sums, call):
    i = call.told[1]
    if i >= len(sums):
        return [NOT_THERE]
    if call.number == REST:
        return told_terms(sums[i])
    if call.number == AT:
        return at(figure, sums[i], call.rows[1])
    if call.number == IS:
        return [yes_or_no(call.rows[1] == flat_terms(sums[i]))]
    return goes(figure, sums[i], call.told[2], call.told[3])


def at(figure, f, values):
    if len(values) != figure.letters or not all([value_fits(v) for v in values]):
        return [DOES_NOT_FIT]
    number = comes_to(f, values)
    if abs(number) > MOST_TOLD:
        return [TOO_MUCH]
    return [0, number]


def goes(figure, f, index, v):
    if not figure.has_letter(index):
        return [NOT_THERE]
    if not value_fits(v):
        return [DOES_NOT_FIT]
    return [yes_or_no(is_nought(put(f, index, v)))]
