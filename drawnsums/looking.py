"""Looking at the figure and its points: points, step, numbers, degree, common.

looked_at gives what is answered of such a call. told_terms, which sayings need
too, is how many terms a sum has, and then these.
"""

from drawnsums.limits import MOST_TOLD
from drawnsums.reading import DEGREE, NUMBERS, POINTS, STEP
from drawnsums.refusals import DOES_NOT_FIT, NOT_THERE, TOO_MUCH
from drawnsums.sums import common_in, flat_terms, most_in, power_of


def looked_at(figure, call):
    if call.number == POINTS:
        return [len(figure.points), figure.letters]
    if not figure.has_point(call.told[0]):
        return [NOT_THERE]
    point = figure.points[call.told[0]]
    if call.number == STEP:
        return [point.kind] + point.told
    if call.number == NUMBERS:
        return numbers(point, call.told[1])
    if call.number == DEGREE:
        return degree(figure, point, call.told[1])
    return common(point)


def numbers(point, i):
    if i > 2:
        return [DOES_NOT_FIT]
    return told_terms((point.x, point.y, point.w)[i])


def told_terms(f):
    if most_in(f) > MOST_TOLD:
        return [TOO_MUCH]
    return [len(f)] + flat_terms(f)


def degree(figure, point, index):
    if not figure.has_letter(index):
        return [NOT_THERE]
    return [max([power_of(f, index) for f in (point.x, point.y, point.w)])]


def common(point):
    greatest = common_in((point.x, point.y, point.w))
    if greatest > MOST_TOLD:
        return [TOO_MUCH]
    return [greatest]
