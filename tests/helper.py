"""What the tests share: asking calls, and the document's words once more, over plain whole numbers.

Here nothing is multiplied out: a point is worked out anew for each choice of what the letters stand
for. Two sums that come to the same on a grid wider than their powers are the same terms.
"""

import itertools
import math

from drawnsums.figure import Figure, answers
from drawnsums.reading import read_calls
from drawnsums.sums import terms

(BEGIN, FIXED, FREE, ON, PART, ALONG, MEET, FOOT, MIRROR, TURN, CENTRE, SECOND, ROUND, INVERSE) = range(14)
(OUT, POINTS, STEP, NUMBERS, DEGREE, COMMON, HOLDS, RESTS, REST, POWER, AT, IS, GOES) = range(14, 27)

POINTS_TOLD = {FIXED: 0, FREE: 0, ON: 2, PART: 2, ALONG: 3, MEET: 4, FOOT: 3, MIRROR: 3,
               TURN: 2, CENTRE: 3, SECOND: 3, ROUND: 2, INVERSE: 3}
LETTERS_BROUGHT = {FREE: 2, ON: 1, ROUND: 1}


def flat(calls):
    return [number for call in calls for number in call]


def split(given):
    """What answers gives back, a list for each call."""
    found = []
    at = 0
    while at < len(given):
        found.append(given[at + 1:at + 1 + given[at]])
        if len(found[-1]) != given[at]:
            raise ValueError("the counts do not fit the numbers")
        at += 1 + given[at]
    return found


def ask(*calls):
    """Each call's answer, all of which are to be one number."""
    found = split(answers(flat(calls)))
    if any(len(answer) != 1 for answer in found):
        raise ValueError("a call is not answered by one number")
    return [answer[0] for answer in found]


def drawn(*calls):
    """The figure itself, after a begin and these calls."""
    figure = Figure()
    for call in read_calls([BEGIN] + flat(calls)):
        figure.answer(call)
    return figure


def value(f, letters):
    total = 0
    for number, *powers in terms(f):
        for power, letter in zip(powers, letters):
            number *= letter ** power
        total += number
    return total


def values(point, letters):
    return tuple(value(f, letters) for f in (point.x, point.y, point.w))


def worked_out(call, points, letters):
    """x, y, w of the step, by the document's words. letters: what its own letters stand for."""
    kind, told = call[0], call[1:]
    count = POINTS_TOLD[kind]
    numbers = told[count:]
    named = [points[p] for p in told[:count]]
    return WORDS[kind](*named, *numbers, *letters)


def to(a, b):
    (ax, ay, aw), (bx, by, bw) = a, b
    return bx * aw - ax * bw, by * aw - ay * bw


def line(a, b):
    (ax, ay, aw), (bx, by, bw) = a, b
    return ay * bw - by * aw, bx * aw - ax * bw, ax * by - bx * ay


def area(a, b, c):
    (ax, ay, aw), (bx, by, bw), (cx, cy, cw) = a, b, c
    return ax * (by * cw - cy * bw) - ay * (bx * cw - cx * bw) + aw * (bx * cy - cx * by)


def on(a, b, s):
    (ax, ay, aw), bw, (ab1, ab2) = a, b[2], to(a, b)
    return ax * bw + s * ab1, ay * bw + s * ab2, aw * bw


def part(a, b, m, n):
    (ax, ay, aw), bw, (ab1, ab2) = a, b[2], to(a, b)
    return n * ax * bw + m * ab1, n * ay * bw + m * ab2, n * aw * bw


def along(a, b, c):
    aw, bw, (cx, cy, cw), (ab1, ab2) = a[2], b[2], c, to(a, b)
    return cx * aw * bw + cw * ab1, cy * aw * bw + cw * ab2, aw * bw * cw


def meet(a, b, c, d):
    (p, q, r), (pp, qq, rr) = line(a, b), line(c, d)
    return q * rr - qq * r, r * pp - rr * p, p * qq - pp * q


def foot(c, a, b, often=1):
    (cx, cy, cw), (p, q, r) = c, line(a, b)
    n, t = p * p + q * q, often * (p * cx + q * cy + r * cw)
    return cx * n - p * t, cy * n - q * t, cw * n


def mirror(c, a, b):
    return foot(c, a, b, 2)


def turn(a, b):
    (ax, ay, aw), bw, (ab1, ab2) = a, b[2], to(a, b)
    return ax * bw - ab2, ay * bw + ab1, aw * bw


def centre(a, b, c):
    (ax, ay, aw), (bx, by, bw), (cx, cy, cw) = a, b, c
    u = (ax * ax + ay * ay) * bw * cw
    v = (bx * bx + by * by) * cw * aw
    t = (cx * cx + cy * cy) * aw * bw
    return (u * (by * cw - cy * bw) + v * (cy * aw - ay * cw) + t * (ay * bw - by * aw),
            u * (cx * bw - bx * cw) + v * (ax * cw - cx * aw) + t * (bx * aw - ax * bw),
            2 * area(a, b, c) * aw * bw * cw)


def second(a, b, o):
    (ax, ay, aw), ow, (ab1, ab2), (ao1, ao2) = a, o[2], to(a, b), to(a, o)
    k, n = 2 * (ao1 * ab1 + ao2 * ab2), ab1 * ab1 + ab2 * ab2
    return ax * ow * n + k * ab1, ay * ow * n + k * ab2, aw * ow * n


def round_about(o, a, s):
    (ax, ay, aw), ow, (ao1, ao2), n = a, o[2], to(a, o), 1 + s * s
    return ax * ow * n + 2 * (ao1 - s * ao2), ay * ow * n + 2 * (ao2 + s * ao1), aw * ow * n


def inverse(o, a, p):
    (ox, oy, ow), aw, pw, (op1, op2), (oa1, oa2) = o, a[2], p[2], to(o, p), to(o, a)
    f, h = (op1 * op1 + op2 * op2) * aw * aw, (oa1 * oa1 + oa2 * oa2) * pw
    return ox * f + h * op1, oy * f + h * op2, ow * f


WORDS = {FIXED: lambda m, n: (m, n, 1), FREE: lambda s, t: (s, t, 1), ON: on, PART: part, ALONG: along,
         MEET: meet, FOOT: foot, MIRROR: mirror, TURN: turn, CENTRE: centre, SECOND: second,
         ROUND: round_about, INVERSE: inverse}

REACH = {FIXED: lambda: 0, FREE: lambda: 0, ON: lambda a, b: a + b, PART: lambda a, b: a + b,
         ALONG: lambda a, b, c: a + b + c, MEET: lambda a, b, c, d: a + b + c + d,
         FOOT: lambda c, a, b: 2 * a + 2 * b + c, MIRROR: lambda c, a, b: 2 * a + 2 * b + c,
         TURN: lambda a, b: a + b, CENTRE: lambda a, b, c: 2 * a + 2 * b + 2 * c,
         SECOND: lambda a, b, o: 3 * a + 2 * b + o, ROUND: lambda o, a: o + a,
         INVERSE: lambda o, a, p: 3 * o + 2 * a + 2 * p}
OWN_REACH = {FREE: 1, ON: 1, ROUND: 2}
OWN_HEAVY = {FIXED: 1, FREE: 1, ON: 1, ROUND: 2}


class Plain:
    """Point 1 once more: a figure as the steps that drew it, worked out on a whole grid when asked."""

    def __init__(self):
        self.steps = []
        self.reaches = []
        self.heavies = []
        self.letters = 0

    def named(self, call):
        return call[1:1 + POINTS_TOLD[call[0]]]

    def reach(self, call):
        found = []
        for letter in range(4):
            reach = REACH[call[0]](*[self.reaches[p][letter] for p in self.named(call)])
            if self.letters <= letter < self.letters + LETTERS_BROUGHT.get(call[0], 0):
                reach += OWN_REACH[call[0]]
            found.append(reach)
        return found

    def heavy(self, call):
        return REACH[call[0]](*[self.heavies[p] for p in self.named(call)]) + OWN_HEAVY.get(call[0], 0)

    def at(self, letters):
        """All points where the letters stand for these."""
        points, brought = [], 0
        for call in self.steps:
            more = brought + LETTERS_BROUGHT.get(call[0], 0)
            points.append(worked_out(call, points, letters[brought:more]))
            brought = more
        return points

    def never_there(self, call, reach):
        own = LETTERS_BROUGHT.get(call[0], 0)
        for letters in grid(reach):
            new = letters[self.letters:self.letters + own]
            if worked_out(call, self.at(letters), new)[2] != 0:
                return False
        return True

    def answer(self, call):
        kind = call[0]
        if any(p >= len(self.steps) for p in self.named(call)):
            return -2
        if kind == FIXED and (abs(call[1]) > 1000 or abs(call[2]) > 1000):
            return -22
        if kind == PART and (abs(call[3]) > 100 or not 1 <= call[4] <= 100):
            return -22
        own = LETTERS_BROUGHT.get(kind, 0)
        if len(self.steps) == 12 or self.letters + own > 4:
            return -28
        reach, heavy = self.reach(call), self.heavy(call)
        if heavy > 400 or math.prod(power + 1 for power in reach) > 200:
            return -75
        if self.never_there(call, reach):
            return -33
        self.steps.append(call)
        self.reaches.append(reach)
        self.heavies.append(heavy)
        self.letters += own
        return len(self.steps) - 1


def grid(reach):
    """As many values of each letter as its reach, and one more."""
    return list(itertools.product(*[range(-(power // 2), power - power // 2 + 1) for power in reach]))
