"""What points have between them: ways, lines, areas and squares, as sums.

A point that is handed in has its sums as x, y, w. A way is two sums, a line three.

- added_products is f g + h k, crossed_products is f g - h k;
- way is from a to b, ab1 and ab2; line is p, q, r; area and square are those of
  points;
- beside is p cx + q cy + r cw, which is nought where c is on the line;
- meeting is the x, y, w of where two lines meet;
- matched is the first numbers of two ways (or lines), multiplied, and the second
  ones, together: nought where the ways are at right angles;
- crossed is the first of one way by the second of the other, less the second by
  the first: nought where the ways are parallel.
"""

from drawnsums.sums import less, plus, times


def added_products(f, g, h, k):
    return plus(times(f, g), times(h, k))


def crossed_products(f, g, h, k):
    return less(times(f, g), times(h, k))


def way(a, b):
    return (crossed_products(b.x, a.w, a.x, b.w), crossed_products(b.y, a.w, a.y, b.w))


def line(a, b):
    return (
        crossed_products(a.y, b.w, b.y, a.w),
        crossed_products(b.x, a.w, a.x, b.w),
        crossed_products(a.x, b.y, b.x, a.y),
    )


def beside(pqr, c):
    return plus(added_products(pqr[0], c.x, pqr[1], c.y), times(pqr[2], c.w))


def meeting(pqr, other):
    return (
        crossed_products(pqr[1], other[2], other[1], pqr[2]),
        crossed_products(pqr[2], other[0], other[2], pqr[0]),
        crossed_products(pqr[0], other[1], other[0], pqr[1]),
    )


def area(a, b, c):
    return beside(line(b, c), a)


def square(a):
    return added_products(a.x, a.x, a.y, a.y)


def matched(first, other):
    return added_products(first[0], other[0], first[1], other[1])


def crossed(first, other):
    return crossed_products(first[0], other[1], first[1], other[0])
