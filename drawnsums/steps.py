"""The thirteen steps: the x, y, w of a new point, from points drawn before.

A point that is handed in has its sums as x, y, w; letters and the numbers m and
n are handed in as sums, too. The last def, drawn, is handed a step's points, then
its m and n, then its letters.

What the steps share:
- moved is point a with its numbers taken scale times, and then moved;
- dropped is point c, moved square to the line of a and b by a share of what it is
  off that line.
"""

from drawnsums.lines import added_products, area, beside, line, matched, meeting, square, way
from drawnsums.sums import constant, less, plus, times

FIXED = 0
FREE = 1
ON = 2
PART = 3
ALONG = 4
MEET = 5
FOOT = 6
MIRROR = 7
TURN = 8
CENTRE = 9
SECOND = 10
ROUND = 11
INVERSE = 12


def moved(a, scale, across, up):
    return (plus(times(a.x, scale), across), plus(times(a.y, scale), up), times(a.w, scale))


def fixed(m, n):
    return (m, n, constant(1))


def free(s, t):
    return (s, t, constant(1))


def on(a, b, s):
    return part(a, b, s, constant(1))


def part(a, b, m, n):
    ab = way(a, b)
    return moved(a, times(n, b.w), times(m, ab[0]), times(m, ab[1]))


def along(a, b, c):
    ab = way(a, b)
    return moved(c, times(a.w, b.w), times(c.w, ab[0]), times(c.w, ab[1]))


def meet(a, b, c, d):
    return meeting(line(a, b), line(c, d))


def foot(c, a, b):
    return dropped(c, a, b, constant(-1))


def mirror(c, a, b):
    return dropped(c, a, b, constant(-2))


def dropped(c, a, b, share):
    pqr = line(a, b)
    t = times(share, beside(pqr, c))
    return moved(c, matched(pqr, pqr), times(pqr[0], t), times(pqr[1], t))


def turn(a, b):
    ab = way(a, b)
    return moved(a, b.w, times(constant(-1), ab[1]), ab[0])


def centre(a, b, c):
    u = times(square(a), times(b.w, c.w))
    v = times(square(b), times(c.w, a.w))
    t = times(square(c), times(a.w, b.w))
    bc = line(b, c)
    ca = line(c, a)
    ab = line(a, b)
    weights = times(times(a.w, b.w), times(c.w, constant(2)))
    return (
        plus(added_products(u, bc[0], v, ca[0]), times(t, ab[0])),
        plus(added_products(u, bc[1], v, ca[1]), times(t, ab[1])),
        times(area(a, b, c), weights),
    )


def second(a, b, o):
    ab = way(a, b)
    k = times(constant(2), matched(way(a, o), ab))
    return moved(a, times(o.w, matched(ab, ab)), times(k, ab[0]), times(k, ab[1]))


def round_about(o, a, s):
    ao = way(a, o)
    n = plus(constant(1), times(s, s))
    across = less(ao[0], times(s, ao[1]))
    up = plus(ao[1], times(s, ao[0]))
    return moved(a, times(o.w, n), times(constant(2), across), times(constant(2), up))


def inverse(o, a, p):
    op = way(o, p)
    oa = way(o, a)
    f = times(matched(op, op), times(a.w, a.w))
    h = times(matched(oa, oa), p.w)
    return moved(o, f, times(h, op[0]), times(h, op[1]))


def without_points(kind, told):
    if kind == FIXED:
        return fixed(told[0], told[1])
    return free(told[0], told[1])


def from_two(kind, told):
    if kind == ON:
        return on(told[0], told[1], told[2])
    if kind == PART:
        return part(told[0], told[1], told[2], told[3])
    if kind == TURN:
        return turn(told[0], told[1])
    return round_about(told[0], told[1], told[2])


def from_three(kind, told):
    if kind == ALONG:
        return along(told[0], told[1], told[2])
    if kind == FOOT:
        return foot(told[0], told[1], told[2])
    if kind == MIRROR:
        return mirror(told[0], told[1], told[2])
    if kind == CENTRE:
        return centre(told[0], told[1], told[2])
    if kind == SECOND:
        return second(told[0], told[1], told[2])
    return inverse(told[0], told[1], told[2])


def drawn(kind, told):
    if kind in (FIXED, FREE):
        return without_points(kind, told)
    if kind in (ON, PART, TURN, ROUND):
        return from_two(kind, told)
    if kind == MEET:
        return meet(told[0], told[1], told[2], told[3])
    return from_three(kind, told)
