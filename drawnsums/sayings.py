"""The thirteen sayings: what is left of each, a list of one sum or of two.

A point that is handed in has its sums as x, y, w; m and n of times are whole
numbers. The last def, left, is handed a saying's points, then its m and n.

What the sayings share:
- weights is the product of three points' w;
- far is one product of the two of equal: ab1 ab1 + ab2 ab2, times cw dw cw dw;
- around is one product of the four of circle: that with a's square;
- together is two ways multiplied as turns: their lengths are multiplied and their
  angles added.
"""

from drawnsums.lines import added_products, area, beside, crossed, crossed_products, line, matched, meeting
from drawnsums.lines import square, way
from drawnsums.sums import constant, less, plus, times


def weights(a, b, c):
    return times(a.w, times(b.w, c.w))


def same(a, b):
    return [crossed_products(a.x, b.w, b.x, a.w), crossed_products(a.y, b.w, b.y, a.w)]


def on_one_line(a, b, c):
    return [area(a, b, c)]


def parallel(a, b, c, d):
    return [crossed(way(a, b), way(c, d))]


def right(a, b, c, d):
    return [matched(way(a, b), way(c, d))]


def equal(a, b, c, d):
    return so_many_times(a, b, c, d, 1, 1)


def so_many_times(a, b, c, d, m, n):
    return [crossed_products(constant(n * n), far(a, b, c, d), constant(m * m), far(c, d, a, b))]


def far(a, b, c, d):
    ab = way(a, b)
    others = times(c.w, d.w)
    return times(matched(ab, ab), times(others, others))


def circle(a, b, c, d):
    first = less(around(a, b, c, d), around(b, a, c, d))
    other = less(around(c, a, b, d), around(d, a, b, c))
    return [plus(first, other)]


def around(a, b, c, d):
    return times(times(square(a), weights(b, c, d)), area(b, c, d))


def angles(a, b, c, d, e, f):
    ba = way(b, a)
    bc = way(b, c)
    ed = way(e, d)
    ef = way(e, f)
    return [crossed_products(crossed(ba, bc), matched(ed, ef), matched(ba, bc), crossed(ed, ef))]


def areas(a, b, c, d, e, f):
    return [crossed_products(area(a, b, c), weights(d, e, f), area(d, e, f), weights(a, b, c))]


def through(a, b, c, d, e, f):
    ab = line(a, b)
    met = meeting(line(c, d), line(e, f))
    return [plus(matched(ab, met), times(ab[2], met[2]))]


def middle(a, b, c):
    twice = times(constant(2), times(b.w, c.w))
    return [
        crossed_products(a.x, twice, a.w, added_products(b.x, c.w, c.x, b.w)),
        crossed_products(a.y, twice, a.w, added_products(b.y, c.w, c.y, b.w)),
    ]


def touches(a, b, c, d):
    ab = line(a, b)
    cd = way(c, d)
    off = times(beside(ab, c), d.w)
    return [crossed_products(off, off, matched(cd, cd), matched(ab, ab))]


def alike(a, b, c, d, e, f):
    first = together(way(a, b), way(d, f))
    other = together(way(d, e), way(a, c))
    ec = times(e.w, c.w)
    fb = times(f.w, b.w)
    return [crossed_products(first[0], ec, other[0], fb), crossed_products(first[1], ec, other[1], fb)]


def together(first, other):
    return (
        crossed_products(first[0], other[0], first[1], other[1]),
        added_products(first[0], other[1], first[1], other[0]),
    )


# By a saying's kind, 0 to 12.
SAYINGS = (
    same,
    on_one_line,
    parallel,
    right,
    equal,
    so_many_times,
    circle,
    angles,
    areas,
    through,
    middle,
    touches,
    alike,
)


def left(kind, told):
    if len(told) == 2:
        return SAYINGS[kind](told[0], told[1])
    if len(told) == 3:
        return SAYINGS[kind](told[0], told[1], told[2])
    if len(told) == 4:
        return SAYINGS[kind](told[0], told[1], told[2], told[3])
    return SAYINGS[kind](told[0], told[1], told[2], told[3], told[4], told[5])
