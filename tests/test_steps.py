"""Each step: its point's number, and its x, y, w as the document tells them."""

import itertools
import unittest
from fractions import Fraction

from drawnsums.sums import terms
from tests.helper import (ALONG, BEGIN, CENTRE, FIXED, FOOT, FREE, INVERSE, MEET, MIRROR, ON, PART, POINTS_TOLD, ROUND,
                          SECOND, TURN, Plain, ask, drawn, grid, values)

# Of these seven points the last three have letters in their x, y and w.
CEVIANS = [[FIXED, 1, 2], [FIXED, 9, -1], [FIXED, 3, 8], [FREE], [MEET, 3, 0, 1, 2], [MEET, 3, 1, 2, 0],
           [MEET, 3, 2, 0, 1]]


def steps_from(first, count, numbers):
    """A step of each kind from each choice of the points."""
    for kind, told in POINTS_TOLD.items():
        for points in itertools.permutations(range(first, first + count), told):
            yield [kind, *points, *numbers.get(kind, [])]


def sums_of(*calls):
    """The terms of the last point's x, y, w."""
    point = drawn(*calls).points[-1]
    return terms(point.x), terms(point.y), terms(point.w)


class ByTheirWords(unittest.TestCase):
    def compare(self, calls):
        figure, plain = drawn(*calls), Plain()
        for call in calls:
            plain.answer(call)
        self.assertEqual(len(figure.points), len(calls))
        for index, point in enumerate(figure.points):
            for letters in grid(plain.reaches[index]):
                self.assertEqual(values(point, letters), plain.at(letters)[index])

    def test_from_points_that_have_letters_everywhere(self):
        for step in steps_from(3, 4, {FIXED: [-1000, 1000], PART: [-7, 12]}):
            with self.subTest(step=step):
                self.compare(CEVIANS + [step])

    def test_from_points_told_twice(self):
        for step in ([ON, 4, 4], [PART, 5, 5, 3, 4], [ALONG, 4, 4, 5], [ALONG, 4, 5, 4], [ALONG, 4, 4, 4],
                     [MEET, 4, 5, 4, 6], [MEET, 4, 5, 5, 6], [FOOT, 4, 4, 5], [FOOT, 5, 4, 5], [MIRROR, 4, 4, 5],
                     [TURN, 4, 4], [SECOND, 4, 5, 4], [SECOND, 4, 5, 5], [ROUND, 4, 4], [INVERSE, 4, 4, 5],
                     [INVERSE, 4, 5, 5]):
            with self.subTest(step=step):
                self.compare(CEVIANS + [step])

    def test_numbers_of_part_at_their_edges(self):
        for m, n in ((0, 1), (100, 1), (-100, 100), (1, 100), (0, 100)):
            with self.subTest(m=m, n=n):
                self.compare(CEVIANS + [[PART, 4, 5, m, n]])

    def test_powers_are_not_above_reaches(self):
        for step in steps_from(3, 4, {FIXED: [5, 6], PART: [2, 3]}):
            plain = Plain()
            for call in CEVIANS + [step]:
                plain.answer(call)
            figure = drawn(*CEVIANS, step)
            for index, point in enumerate(figure.points):
                self.assertEqual(list(point.reach), plain.reaches[index])
                self.assertEqual(point.heavy, plain.heavies[index])
                for f in (point.x, point.y, point.w):
                    for number, *powers in terms(f):
                        self.assertNotEqual(number, 0)
                        self.assertTrue(all(power <= most for power, most in zip(powers, point.reach)))


class MultipliedOut(unittest.TestCase):
    """Terms by hand, small enough to be checked by eye."""

    def test_fixed(self):
        self.assertEqual(sums_of([FIXED, -3, 1000]), ([(-3, 0, 0, 0, 0)], [(1000, 0, 0, 0, 0)], [(1, 0, 0, 0, 0)]))
        self.assertEqual(sums_of([FIXED, 0, 0]), ([], [], [(1, 0, 0, 0, 0)]))

    def test_free(self):
        self.assertEqual(sums_of([FREE]), ([(1, 1, 0, 0, 0)], [(1, 0, 1, 0, 0)], [(1, 0, 0, 0, 0)]))
        self.assertEqual(sums_of([FREE], [FREE]), ([(1, 0, 0, 1, 0)], [(1, 0, 0, 0, 1)], [(1, 0, 0, 0, 0)]))

    def test_on(self):
        self.assertEqual(sums_of([FIXED, 3, 5], [FIXED, 10, 20], [ON, 0, 1]),
                         ([(7, 1, 0, 0, 0), (3, 0, 0, 0, 0)], [(15, 1, 0, 0, 0), (5, 0, 0, 0, 0)], [(1, 0, 0, 0, 0)]))
        self.assertEqual(sums_of([FREE], [FREE], [BEGIN], [FREE], [FIXED, 0, 1], [ON, 0, 1]),
                         ([(-1, 1, 0, 1, 0), (1, 1, 0, 0, 0)],
                          [(-1, 0, 1, 1, 0), (1, 0, 1, 0, 0), (1, 0, 0, 1, 0)], [(1, 0, 0, 0, 0)]))

    def test_on_one_point_twice_brings_a_letter_in_no_term(self):
        figure = drawn([FIXED, 3, 5], [ON, 0, 0], [FREE])
        self.assertEqual(terms(figure.points[1].x), [(3, 0, 0, 0, 0)])
        self.assertEqual(terms(figure.points[2].x), [(1, 0, 1, 0, 0)])
        self.assertEqual(terms(figure.points[2].y), [(1, 0, 0, 1, 0)])

    def test_part(self):
        self.assertEqual(sums_of([FIXED, 0, 0], [FREE], [PART, 0, 1, 1, 2]),
                         ([(1, 1, 0, 0, 0)], [(1, 0, 1, 0, 0)], [(2, 0, 0, 0, 0)]))
        self.assertEqual(sums_of([FIXED, 1, 2], [FIXED, 4, 6], [PART, 0, 1, -2, 3]),
                         ([(-3, 0, 0, 0, 0)], [(-2, 0, 0, 0, 0)], [(3, 0, 0, 0, 0)]))

    def test_nothing_is_divided(self):
        self.assertEqual(sums_of([FIXED, 2, 4], [FIXED, 6, 8], [PART, 0, 1, 1, 2], [TURN, 2, 2]),
                         ([(16, 0, 0, 0, 0)], [(24, 0, 0, 0, 0)], [(4, 0, 0, 0, 0)]))

    def test_along(self):
        self.assertEqual(sums_of([FIXED, 1, 2], [FIXED, 4, 6], [FREE], [ALONG, 0, 1, 2]),
                         ([(1, 1, 0, 0, 0), (3, 0, 0, 0, 0)], [(1, 0, 1, 0, 0), (4, 0, 0, 0, 0)], [(1, 0, 0, 0, 0)]))

    def test_meet(self):
        self.assertEqual(sums_of([FIXED, 0, 0], [FIXED, 2, 0], [FIXED, 1, 1], [FREE], [MEET, 0, 1, 2, 3]),
                         ([(-2, 1, 0, 0, 0), (2, 0, 1, 0, 0)], [], [(2, 0, 1, 0, 0), (-2, 0, 0, 0, 0)]))

    def test_foot_and_mirror(self):
        points = [[FIXED, 0, 0], [FIXED, 0, 2], [FREE]]
        self.assertEqual(sums_of(*points, [FOOT, 2, 0, 1]), ([], [(4, 0, 1, 0, 0)], [(4, 0, 0, 0, 0)]))
        self.assertEqual(sums_of(*points, [MIRROR, 2, 0, 1]),
                         ([(-4, 1, 0, 0, 0)], [(4, 0, 1, 0, 0)], [(4, 0, 0, 0, 0)]))

    def test_turn(self):
        self.assertEqual(sums_of([FIXED, 5, 7], [FREE], [TURN, 0, 1]),
                         ([(-1, 0, 1, 0, 0), (12, 0, 0, 0, 0)], [(1, 1, 0, 0, 0), (2, 0, 0, 0, 0)],
                          [(1, 0, 0, 0, 0)]))

    def test_centre(self):
        self.assertEqual(sums_of([FIXED, 0, 0], [FIXED, 2, 0], [FREE], [CENTRE, 0, 1, 2]),
                         ([(4, 0, 1, 0, 0)], [(2, 2, 0, 0, 0), (-4, 1, 0, 0, 0), (2, 0, 2, 0, 0)],
                          [(4, 0, 1, 0, 0)]))

    def test_second(self):
        self.assertEqual(sums_of([FIXED, 0, 0], [FIXED, 3, 0], [FREE], [SECOND, 0, 1, 2]),
                         ([(18, 1, 0, 0, 0)], [], [(9, 0, 0, 0, 0)]))

    def test_round(self):
        self.assertEqual(sums_of([FIXED, 0, 0], [FIXED, 5, 0], [ROUND, 0, 1]),
                         ([(5, 2, 0, 0, 0), (-5, 0, 0, 0, 0)], [(-10, 1, 0, 0, 0)],
                          [(1, 2, 0, 0, 0), (1, 0, 0, 0, 0)]))

    def test_inverse(self):
        self.assertEqual(sums_of([FIXED, 0, 0], [FIXED, 3, 0], [FREE], [INVERSE, 0, 1, 2]),
                         ([(9, 1, 0, 0, 0)], [(9, 0, 1, 0, 0)], [(1, 2, 0, 0, 0), (1, 0, 2, 0, 0)]))

    def test_letters_are_numbered_as_they_come(self):
        figure = drawn([FIXED, 0, 0], [FIXED, 1, 0], [ON, 0, 1], [ROUND, 0, 1], [FREE])
        self.assertEqual(terms(figure.points[2].x), [(1, 1, 0, 0, 0)])
        self.assertEqual(terms(figure.points[3].w), [(1, 0, 2, 0, 0), (1, 0, 0, 0, 0)])
        self.assertEqual(terms(figure.points[4].x), [(1, 0, 0, 1, 0)])
        self.assertEqual(terms(figure.points[4].y), [(1, 0, 0, 0, 1)])


def dot(first, other):
    return first[0] * other[0] + first[1] * other[1]


def cross(first, other):
    return first[0] * other[1] - first[1] * other[0]


def off(a, b):
    return (b[0] - a[0], b[1] - a[1])


class WhereItIsDrawn(unittest.TestCase):
    """A point multiplied out is where ruler and compasses put it."""

    DRAWINGS = [(4, 2, 3), (-4, 7, 1), (5, 4, -2), (3, 5, 0)]

    def places(self, step):
        """Where the points are, the step's own last."""
        figure = drawn(*CEVIANS, step)
        for letters in self.DRAWINGS:
            found = []
            for point in figure.points:
                x, y, w = values(point, letters)
                self.assertNotEqual(w, 0)
                found.append((Fraction(x, w), Fraction(y, w)))
            yield found, letters

    def test_on_and_part(self):
        for p, letters in self.places([ON, 4, 5]):
            self.assertEqual(off(p[4], p[7]), tuple(letters[2] * part for part in off(p[4], p[5])))
        for p, letters in self.places([PART, 4, 5, -2, 7]):
            self.assertEqual(off(p[4], p[7]), tuple(Fraction(-2, 7) * part for part in off(p[4], p[5])))

    def test_along_and_turn(self):
        for p, letters in self.places([ALONG, 4, 5, 6]):
            self.assertEqual(off(p[6], p[7]), off(p[4], p[5]))
        for p, letters in self.places([TURN, 4, 5]):
            across, up = off(p[4], p[5])
            self.assertEqual(off(p[4], p[7]), (-up, across))

    def test_meet(self):
        for p, letters in self.places([MEET, 4, 5, 6, 3]):
            self.assertEqual(cross(off(p[4], p[5]), off(p[4], p[7])), 0)
            self.assertEqual(cross(off(p[6], p[3]), off(p[6], p[7])), 0)

    def test_foot_and_mirror(self):
        for p, letters in self.places([FOOT, 4, 5, 6]):
            self.assertEqual(cross(off(p[5], p[6]), off(p[5], p[7])), 0)
            self.assertEqual(dot(off(p[5], p[6]), off(p[4], p[7])), 0)
        for p, letters in self.places([MIRROR, 4, 5, 6]):
            half = ((p[4][0] + p[7][0]) / 2, (p[4][1] + p[7][1]) / 2)
            self.assertEqual(cross(off(p[5], p[6]), off(p[5], half)), 0)
            self.assertEqual(dot(off(p[5], p[6]), off(p[4], p[7])), 0)

    def test_centre(self):
        for p, letters in self.places([CENTRE, 4, 5, 6]):
            far = [dot(off(p[7], corner), off(p[7], corner)) for corner in p[4:7]]
            self.assertEqual(far, [far[0]] * 3)

    def test_second_and_round(self):
        for p, letters in self.places([SECOND, 4, 5, 6]):
            self.assertEqual(cross(off(p[4], p[5]), off(p[4], p[7])), 0)
            self.assertEqual(dot(off(p[6], p[7]), off(p[6], p[7])), dot(off(p[6], p[4]), off(p[6], p[4])))
            self.assertNotEqual(p[7], p[4])
        for p, letters in self.places([ROUND, 4, 5]):
            self.assertEqual(dot(off(p[4], p[7]), off(p[4], p[7])), dot(off(p[4], p[5]), off(p[4], p[5])))

    def test_inverse(self):
        for p, letters in self.places([INVERSE, 4, 5, 6]):
            self.assertEqual(cross(off(p[4], p[6]), off(p[4], p[7])), 0)
            self.assertEqual(dot(off(p[4], p[6]), off(p[4], p[7])), dot(off(p[4], p[5]), off(p[4], p[5])))


class Answered(unittest.TestCase):
    def test_each_step_answers_its_points_number(self):
        for step in steps_from(3, 4, {FIXED: [0, 0], PART: [1, 2]}):
            with self.subTest(step=step):
                self.assertEqual(ask([BEGIN], *CEVIANS, step, [TURN, 7, 0]), [0] + list(range(9)))


if __name__ == "__main__":
    unittest.main()
