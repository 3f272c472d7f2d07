"""What the tests share: asking calls, and the document's words once more.

Over plain whole numbers nothing is multiplied out: a point is worked out anew for each choice of what
the letters stand for. Two sums that come to the same on a grid wider than their powers are the same
terms. The same words over Sum, below, are multiplied out, in another way than the program does it.
"""

import itertools
import math

from drawnsums.figure import Figure, answers
from drawnsums.reading import read_calls
from drawnsums.sums import terms

(BEGIN, FIXED, FREE, ON, PART, ALONG, MEET, FOOT, MIRROR, TURN, CENTRE, SECOND, ROUND, INVERSE) = range(14)
(OUT, POINTS, STEP, NUMBERS, DEGREE, COMMON, HOLDS, RESTS, REST, POWER, AT, IS, GOES) = range(14, 27)

POINTS_TOLD = {FIXED: 0, FREE: 0, ON: 2, PART: 2, ALONG: 3, MEET: 4, FOOT: 3, MIRROR: 3,
               TURN: 2, CENTRE: 3, SECOND: 3, ROUND: 2, INVERSE: 3}
LETTERS_BROUGHT = {FREE: 2, ON: 1, ROUND: 1}

(SAME, LINE, PARALLEL, RIGHT, EQUAL, TIMES, CIRCLE, ANGLES, AREAS, THROUGH, MIDDLE, TOUCHES, ALIKE) = range(13)
POINTS_SAID = {SAME: 2, LINE: 3, PARALLEL: 4, RIGHT: 4, EQUAL: 4, TIMES: 4, CIRCLE: 4, ANGLES: 6, AREAS: 6,
               THROUGH: 6, MIDDLE: 3, TOUCHES: 4, ALIKE: 6}
SUMS_LEFT = {kind: 2 if kind in (SAME, MIDDLE, ALIKE) else 1 for kind in range(13)}
MOST = 2 ** 31 - 1


def flat(calls):
    return [number for call in calls for number in call]


def split(given):
    """What answers gives back, a list for each call."""
    found = []
    at = 0
    while at < len(given):
        found.append(given[at + 1:at + 1 + given[at]])
        if len(found[-1]) != given[at]:
            raise ValueError("the counts do not fit the numbers")
        at += 1 + given[at]
    return found


def ask(*calls):
    """Each call's answer, all of which are to be one number."""
    found = split(answers(flat(calls)))
    if any(len(answer) != 1 for answer in found):
        raise ValueError("a call is not answered by one number")
    return [answer[0] for answer in found]


def told(*calls):
    """What is answered of each call after a begin, a list for each."""
    return split(answers([BEGIN] + flat(calls)))[1:]


def last(*calls):
    """What is answered of the last call after a begin, a list."""
    return told(*calls)[-1]


def asking(call, kind, its, **more):
    """A call from holds to goes. more: i, letter, v, values, terms where they are not the plainest."""
    i, letter, v = more.get("i", 0), more.get("letter", 0), more.get("v", 0)
    row = [len(its), *its]
    if call in (HOLDS, RESTS):
        return [call, kind, *row]
    if call == REST:
        return [call, kind, i, *row]
    if call == POWER:
        return [call, kind, letter, *row]
    if call == GOES:
        return [call, kind, i, letter, v, *row]
    other = more.get("values", []) if call == AT else more.get("terms", [])
    return [call, kind, i, *row, len(other), *other]


def rows_of_terms(answer):
    """The terms in what numbers or rest answers, five numbers each."""
    count, numbers = answer[0], answer[1:]
    if len(numbers) != 5 * count:
        raise ValueError("there are not five numbers for each term")
    return [tuple(numbers[at:at + 5]) for at in range(0, len(numbers), 5)]


def come_to(rows, letters):
    """What these terms come to."""
    return sum(math.prod([number] + [letter ** power for letter, power in zip(letters, powers)])
               for number, *powers in rows)


def shuffled_numbers(seed):
    """The same row of numbers for the same seed, each below 2 ** 16."""
    while True:
        seed = (seed * 1103515245 + 12345) % 2 ** 31
        yield seed >> 15


def drawn(*calls):
    """The figure itself, after a begin and these calls."""
    figure = Figure()
    for call in read_calls([BEGIN] + flat(calls)):
        figure.answer(call)
    return figure


def values(point, letters):
    return tuple(come_to(terms(f), letters) for f in (point.x, point.y, point.w))


def worked_out(call, points, letters):
    """x, y, w of the step, by the document's words. letters: what its own letters stand for."""
    kind, told = call[0], call[1:]
    count = POINTS_TOLD[kind]
    numbers = told[count:]
    named = [points[p] for p in told[:count]]
    return WORDS[kind](*named, *numbers, *letters)


def to(a, b):
    (ax, ay, aw), (bx, by, bw) = a, b
    return bx * aw - ax * bw, by * aw - ay * bw


def line(a, b):
    (ax, ay, aw), (bx, by, bw) = a, b
    return ay * bw - by * aw, bx * aw - ax * bw, ax * by - bx * ay


def area(a, b, c):
    (ax, ay, aw), (bx, by, bw), (cx, cy, cw) = a, b, c
    return ax * (by * cw - cy * bw) - ay * (bx * cw - cx * bw) + aw * (bx * cy - cx * by)


def on(a, b, s):
    (ax, ay, aw), bw, (ab1, ab2) = a, b[2], to(a, b)
    return ax * bw + s * ab1, ay * bw + s * ab2, aw * bw


def part(a, b, m, n):
    (ax, ay, aw), bw, (ab1, ab2) = a, b[2], to(a, b)
    return n * ax * bw + m * ab1, n * ay * bw + m * ab2, n * aw * bw


def along(a, b, c):
    aw, bw, (cx, cy, cw), (ab1, ab2) = a[2], b[2], c, to(a, b)
    return cx * aw * bw + cw * ab1, cy * aw * bw + cw * ab2, aw * bw * cw


def meet(a, b, c, d):
    (p, q, r), (pp, qq, rr) = line(a, b), line(c, d)
    return q * rr - qq * r, r * pp - rr * p, p * qq - pp * q


def foot(c, a, b, often=1):
    (cx, cy, cw), (p, q, r) = c, line(a, b)
    n, t = p * p + q * q, often * (p * cx + q * cy + r * cw)
    return cx * n - p * t, cy * n - q * t, cw * n


def mirror(c, a, b):
    return foot(c, a, b, 2)


def turn(a, b):
    (ax, ay, aw), bw, (ab1, ab2) = a, b[2], to(a, b)
    return ax * bw - ab2, ay * bw + ab1, aw * bw


def centre(a, b, c):
    (ax, ay, aw), (bx, by, bw), (cx, cy, cw) = a, b, c
    u = (ax * ax + ay * ay) * bw * cw
    v = (bx * bx + by * by) * cw * aw
    t = (cx * cx + cy * cy) * aw * bw
    return (u * (by * cw - cy * bw) + v * (cy * aw - ay * cw) + t * (ay * bw - by * aw),
            u * (cx * bw - bx * cw) + v * (ax * cw - cx * aw) + t * (bx * aw - ax * bw),
            2 * area(a, b, c) * aw * bw * cw)


def second(a, b, o):
    (ax, ay, aw), ow, (ab1, ab2), (ao1, ao2) = a, o[2], to(a, b), to(a, o)
    k, n = 2 * (ao1 * ab1 + ao2 * ab2), ab1 * ab1 + ab2 * ab2
    return ax * ow * n + k * ab1, ay * ow * n + k * ab2, aw * ow * n


def round_about(o, a, s):
    (ax, ay, aw), ow, (ao1, ao2), n = a, o[2], to(a, o), 1 + s * s
    return ax * ow * n + 2 * (ao1 - s * ao2), ay * ow * n + 2 * (ao2 + s * ao1), aw * ow * n


def inverse(o, a, p):
    (ox, oy, ow), aw, pw, (op1, op2), (oa1, oa2) = o, a[2], p[2], to(o, p), to(o, a)
    f, h = (op1 * op1 + op2 * op2) * aw * aw, (oa1 * oa1 + oa2 * oa2) * pw
    return ox * f + h * op1, oy * f + h * op2, ow * f


WORDS = {FIXED: lambda m, n: (m, n, 1), FREE: lambda s, t: (s, t, 1), ON: on, PART: part, ALONG: along,
         MEET: meet, FOOT: foot, MIRROR: mirror, TURN: turn, CENTRE: centre, SECOND: second,
         ROUND: round_about, INVERSE: inverse}

REACH = {FIXED: lambda: 0, FREE: lambda: 0, ON: lambda a, b: a + b, PART: lambda a, b: a + b,
         ALONG: lambda a, b, c: a + b + c, MEET: lambda a, b, c, d: a + b + c + d,
         FOOT: lambda c, a, b: 2 * a + 2 * b + c, MIRROR: lambda c, a, b: 2 * a + 2 * b + c,
         TURN: lambda a, b: a + b, CENTRE: lambda a, b, c: 2 * a + 2 * b + 2 * c,
         SECOND: lambda a, b, o: 3 * a + 2 * b + o, ROUND: lambda o, a: o + a,
         INVERSE: lambda o, a, p: 3 * o + 2 * a + 2 * p}
OWN_REACH = {FREE: 1, ON: 1, ROUND: 2}
OWN_HEAVY = {FIXED: 1, FREE: 1, ON: 1, ROUND: 2}


class Plain:
    """Point 1 once more: a figure as the steps that drew it, worked out on a whole grid when asked."""

    def __init__(self):
        self.steps = []
        self.reaches = []
        self.heavies = []
        self.letters = 0

    def named(self, call):
        return call[1:1 + POINTS_TOLD[call[0]]]

    def reach(self, call):
        found = []
        for letter in range(4):
            reach = REACH[call[0]](*[self.reaches[p][letter] for p in self.named(call)])
            if self.letters <= letter < self.letters + LETTERS_BROUGHT.get(call[0], 0):
                reach += OWN_REACH[call[0]]
            found.append(reach)
        return found

    def heavy(self, call):
        return REACH[call[0]](*[self.heavies[p] for p in self.named(call)]) + OWN_HEAVY.get(call[0], 0)

    def at(self, letters):
        """All points where the letters stand for these."""
        points, brought = [], 0
        for call in self.steps:
            more = brought + LETTERS_BROUGHT.get(call[0], 0)
            points.append(worked_out(call, points, letters[brought:more]))
            brought = more
        return points

    def never_there(self, call, reach):
        own = LETTERS_BROUGHT.get(call[0], 0)
        for letters in grid(reach):
            new = letters[self.letters:self.letters + own]
            if worked_out(call, self.at(letters), new)[2] != 0:
                return False
        return True

    def answer(self, call):
        kind = call[0]
        if any(p >= len(self.steps) for p in self.named(call)):
            return -2
        if kind == FIXED and (abs(call[1]) > 1000 or abs(call[2]) > 1000):
            return -22
        if kind == PART and (abs(call[3]) > 100 or not 1 <= call[4] <= 100):
            return -22
        own = LETTERS_BROUGHT.get(kind, 0)
        if len(self.steps) == 12 or self.letters + own > 4:
            return -28
        reach, heavy = self.reach(call), self.heavy(call)
        if heavy > 400 or math.prod(power + 1 for power in reach) > 200:
            return -75
        if self.never_there(call, reach):
            return -33
        self.steps.append(call)
        self.reaches.append(reach)
        self.heavies.append(heavy)
        self.letters += own
        return len(self.steps) - 1


def grid(reach):
    """As many values of each letter as its reach, and one more."""
    return list(itertools.product(*[range(-(power // 2), power - power // 2 + 1) for power in reach]))


def square(a):
    return a[0] * a[0] + a[1] * a[1]


def same(a, b):
    (ax, ay, aw), (bx, by, bw) = a, b
    return ax * bw - bx * aw, ay * bw - by * aw


def parallel(a, b, c, d):
    (ab1, ab2), (cd1, cd2) = to(a, b), to(c, d)
    return ab1 * cd2 - ab2 * cd1,


def right(a, b, c, d):
    (ab1, ab2), (cd1, cd2) = to(a, b), to(c, d)
    return ab1 * cd1 + ab2 * cd2,


def so_many_times(a, b, c, d, m, n):
    (ab1, ab2), (cd1, cd2), aw, bw, cw, dw = to(a, b), to(c, d), a[2], b[2], c[2], d[2]
    first = (ab1 * ab1 + ab2 * ab2) * cw * dw * cw * dw
    other = (cd1 * cd1 + cd2 * cd2) * aw * bw * aw * bw
    return n * n * first - m * m * other,


def equal(a, b, c, d):
    return so_many_times(a, b, c, d, 1, 1)


def circle(a, b, c, d):
    aw, bw, cw, dw = a[2], b[2], c[2], d[2]
    return (square(a) * bw * cw * dw * area(b, c, d) - square(b) * aw * cw * dw * area(a, c, d)
            + square(c) * aw * bw * dw * area(a, b, d) - square(d) * aw * bw * cw * area(a, b, c)),


def angles(a, b, c, d, e, f):
    (ba1, ba2), (bc1, bc2), (ed1, ed2), (ef1, ef2) = to(b, a), to(b, c), to(e, d), to(e, f)
    return ((ba1 * bc2 - ba2 * bc1) * (ed1 * ef1 + ed2 * ef2) - (ba1 * bc1 + ba2 * bc2) * (ed1 * ef2 - ed2 * ef1)),


def areas(a, b, c, d, e, f):
    return area(a, b, c) * d[2] * e[2] * f[2] - area(d, e, f) * a[2] * b[2] * c[2],


def through(a, b, c, d, e, f):
    (p, q, r), (pp, qq, rr), (ppp, qqq, rrr) = line(a, b), line(c, d), line(e, f)
    return p * (qq * rrr - qqq * rr) - q * (pp * rrr - ppp * rr) + r * (pp * qqq - ppp * qq),


def middle(a, b, c):
    (ax, ay, aw), (bx, by, bw), (cx, cy, cw) = a, b, c
    return 2 * ax * bw * cw - aw * (bx * cw + cx * bw), 2 * ay * bw * cw - aw * (by * cw + cy * bw)


def touches(a, b, c, d):
    (p, q, r), (cx, cy, cw), dw, (cd1, cd2) = line(a, b), c, d[2], to(c, d)
    t = p * cx + q * cy + r * cw
    return t * t * dw * dw - (cd1 * cd1 + cd2 * cd2) * (p * p + q * q),


def alike(a, b, c, d, e, f):
    (ab1, ab2), (df1, df2), (de1, de2), (ac1, ac2) = to(a, b), to(d, f), to(d, e), to(a, c)
    bw, cw, ew, fw = b[2], c[2], e[2], f[2]
    return ((ab1 * df1 - ab2 * df2) * ew * cw - (de1 * ac1 - de2 * ac2) * fw * bw,
            (ab1 * df2 + ab2 * df1) * ew * cw - (de1 * ac2 + de2 * ac1) * fw * bw)


# What is left of a saying, one sum or two.
LEFT = {SAME: same, LINE: lambda a, b, c: (area(a, b, c),), PARALLEL: parallel, RIGHT: right, EQUAL: equal,
        TIMES: so_many_times, CIRCLE: circle, ANGLES: angles, AREAS: areas, THROUGH: through, MIDDLE: middle,
        TOUCHES: touches, ALIKE: alike}


def reach_in_saying(kind, reaches):
    """A letter's reach in a saying, from its reaches in the saying's points."""
    if kind in (EQUAL, TIMES, CIRCLE, TOUCHES):
        return 2 * sum(reaches)
    if kind == ANGLES:
        a, b, c, d, e, f = reaches
        return a + c + d + f + 2 * (b + e)
    return sum(reaches)


class Sum:
    """Terms by their powers, a tuple, multiplied out."""

    def __init__(self, numbers):
        self.numbers = {powers: number for powers, number in numbers.items() if number}

    def __add__(self, other):
        total = dict(self.numbers)
        for powers, number in as_sum(other).numbers.items():
            total[powers] = total.get(powers, 0) + number
        return Sum(total)

    def __mul__(self, other):
        total = {}
        for powers, number in self.numbers.items():
            for others, factor in as_sum(other).numbers.items():
                both = tuple(power + more for power, more in zip(powers, others))
                total[both] = total.get(both, 0) + number * factor
        return Sum(total)

    def __sub__(self, other):
        return self + as_sum(other) * -1

    def __rsub__(self, other):
        return as_sum(other) - self

    __radd__ = __add__
    __rmul__ = __mul__

    def rows(self):
        return [(self.numbers[powers], *powers) for powers in sorted(self.numbers, reverse=True)]

    def power(self, letter):
        return max([powers[letter] for powers in self.numbers], default=0)

    def where(self, letter, v):
        """The sum where the letter is v."""
        total = Sum({})
        for powers, number in self.numbers.items():
            rest = tuple(0 if index == letter else power for index, power in enumerate(powers))
            total += Sum({rest: number * v ** powers[letter]})
        return total


def as_sum(number):
    return number if isinstance(number, Sum) else Sum({(0, 0, 0, 0): number})


def letter_sums():
    return [Sum({tuple(int(place == index) for place in range(4)): 1}) for index in range(4)]


class Whole(Plain):
    """All points of the document once more: what is answered of each call, a list of lists."""

    def __init__(self):
        super().__init__()
        self.begun = False

    def told(self, calls):
        return [self.call(call) for call in calls]

    def call(self, call):
        number = call[0]
        if number == BEGIN:
            self.__init__()
            self.begun = True
            return [0]
        if not self.begun:
            return [-61]
        if number <= INVERSE:
            return [self.answer(call)]
        if number == OUT:
            return self.out()
        if number == POINTS:
            return [len(self.steps), self.letters]
        if number <= COMMON:
            return self.look(number, *call[1:])
        return self.ask(call)

    def out(self):
        if not self.steps:
            return [-2]
        self.letters -= LETTERS_BROUGHT.get(self.steps.pop()[0], 0)
        self.reaches.pop()
        self.heavies.pop()
        return [len(self.steps)]

    def sums(self):
        return [tuple(as_sum(f) for f in point) for point in self.at(letter_sums())]

    def look(self, number, p, other=0):
        if p >= len(self.steps):
            return [-2]
        if number == STEP:
            return [self.steps[p][0] - FIXED] + self.steps[p][1:]
        point = self.sums()[p]
        if number == NUMBERS:
            return [-22] if other > 2 else tell(point[other])
        if number == DEGREE:
            return [-2] if other >= self.letters else [max(f.power(other) for f in point)]
        common = math.gcd(*[n for f in point for n in f.numbers.values()])
        return [-75] if common > 10 ** 15 else [common]

    def refusal(self, kind, its):
        if kind > ALIKE or len(its) != POINTS_SAID[kind] + (2 if kind == TIMES else 0):
            return -22
        if kind == TIMES and not (1 <= its[4] <= 1000 and 1 <= its[5] <= 1000):
            return -22
        points = its[:POINTS_SAID[kind]]
        if any(p >= len(self.steps) for p in points):
            return -2
        if math.prod(reach + 1 for reach in self.saying_reach(kind, its)) > 200:
            return -75
        return 0

    def saying_reach(self, kind, its):
        points = its[:POINTS_SAID[kind]]
        return [reach_in_saying(kind, [self.reaches[p][letter] for p in points]) for letter in range(4)]

    def left(self, kind, its, points):
        count = POINTS_SAID[kind]
        return LEFT[kind](*[points[p] for p in its[:count]], *its[count:])

    def ask(self, call):
        number, kind, told = call[0], call[1], call[2:]
        before = {REST: 1, POWER: 1, AT: 1, IS: 1, GOES: 3}.get(number, 0)
        told, rows = told[:before], told[before:]
        its, other = rows[1:1 + rows[0]], rows[2 + rows[0]:]
        refusal = self.refusal(kind, its)
        if refusal:
            return [refusal]
        sums = [as_sum(f) for f in self.left(kind, its, self.sums())]
        if number == HOLDS:
            return [int(not any(f.numbers for f in sums))]
        if number == RESTS:
            return [len(sums)] + [len(f.numbers) for f in sums]
        if number == POWER:
            return [-2] if told[0] >= self.letters else [max(f.power(told[0]) for f in sums)]
        if told[0] >= len(sums):
            return [-2]
        return self.ask_of(number, sums[told[0]], told[1:], other)

    def ask_of(self, number, f, told, other):
        if number == REST:
            return tell(f)
        if number == IS:
            return [int(other == flat(f.rows()))]
        if number == AT:
            if len(other) != self.letters or any(abs(v) > 1000 for v in other):
                return [-22]
            total = come_to(f.rows(), other)
            return [-75] if abs(total) > 10 ** 15 else [0, total]
        letter, v = told
        if letter >= self.letters:
            return [-2]
        return [-22] if abs(v) > 1000 else [int(not f.where(letter, v).numbers)]


def tell(f):
    if any(abs(number) > 10 ** 15 for number in f.numbers.values()):
        return [-75]
    return [len(f.numbers)] + flat(f.rows())
