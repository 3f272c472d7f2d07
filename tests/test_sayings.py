"""What is left of each saying, against the document's words; and holds, rests, rest and power."""

import itertools
import unittest

from tests.helper import (ALIKE, ALONG, ANGLES, AREAS, CENTRE, CIRCLE, EQUAL, FIXED, FOOT, FREE, HOLDS, INVERSE, LEFT,
                          LINE, MEET, MIDDLE, MIRROR, MOST, ON, PARALLEL, PART, POINTS_SAID, POWER, REST, RESTS, RIGHT,
                          ROUND, SAME, SUMS_LEFT, THROUGH, TIMES, TOUCHES, TURN, Whole, asking, come_to, grid, last,
                          rows_of_terms, told)

# Of these seven points the last three have letters in their x, y and w.
CEVIANS = [[FIXED, 1, 0], [FIXED, 3, -1], [FIXED, 2, 2], [FREE], [MEET, 3, 0, 1, 2], [MEET, 3, 1, 2, 0],
           [MEET, 3, 2, 0, 1]]
# No letters, but w of points 3 and 4 is not 1.
WITHOUT_LETTERS = [[FIXED, 1, 2], [FIXED, 9, -1], [FIXED, 3, 8], [PART, 0, 1, 2, 7], [FOOT, 0, 1, 2], [TURN, 3, 2],
                   [FIXED, -5, 4]]
# One letter on a line and one round a circle.
TWO_LETTERS = [[FIXED, 0, 0], [FIXED, 3, 0], [ON, 0, 1], [ROUND, 0, 1], [TURN, 1, 3], [FIXED, -2, 5], [ALONG, 5, 0, 2]]
DRAWINGS = {"cevians": CEVIANS, "without letters": WITHOUT_LETTERS, "two letters": TWO_LETTERS}
NUMBERS = {TIMES: [3, 2]}
# Rows of points; a saying takes as many of each as it needs.
ROWS = [(3, 4, 5, 6, 0, 1), (6, 5, 4, 3, 2, 1), (4, 0, 3, 1, 5, 2), (1, 4, 2, 6, 0, 5), (0, 1, 2, 3, 4, 5),
        (3, 3, 4, 4, 5, 5), (4, 5, 4, 6, 5, 4), (5, 3, 3, 5, 3, 3), (4, 4, 4, 4, 4, 4), (2, 6, 1, 2, 1, 6)]


def its_of(kind, row):
    return list(row[:POINTS_SAID[kind]]) + NUMBERS.get(kind, [])


class ByTheirWords(unittest.TestCase):
    def compare(self, figure, kind, its):
        whole = Whole()
        for step in figure:
            whole.answer(step)
        if whole.refusal(kind, its):
            return 0
        count = SUMS_LEFT[kind]
        holds, rests, *found = told(*figure, asking(HOLDS, kind, its), asking(RESTS, kind, its),
                                    *[asking(REST, kind, its, i=i) for i in range(count)])[len(figure):]
        sums = [rows_of_terms(answer) for answer in found]
        self.assertEqual(rests, [count] + [len(rows) for rows in sums])
        reach = whole.saying_reach(kind, its)
        verdict = 1
        for letters in grid(reach):
            left = whole.left(kind, its, whole.at(letters))
            self.assertEqual(tuple(come_to(rows, letters) for rows in sums), left)
            verdict = verdict if not any(left) else 0
        self.assertEqual(holds, [verdict])
        for rows in sums:
            self.in_order(rows, reach)
        return 1

    def in_order(self, rows, reach):
        powers = [term[1:] for term in rows]
        self.assertEqual(powers, sorted(set(powers), reverse=True))
        self.assertNotIn(0, [term[0] for term in rows])
        self.assertTrue(all(power <= most for row in powers for power, most in zip(row, reach)))

    def test_each_saying_at_each_drawing(self):
        for (name, figure), kind in itertools.product(DRAWINGS.items(), LEFT):
            compared = 0
            for row in ROWS:
                with self.subTest(drawing=name, kind=kind, row=row):
                    compared += self.compare(figure, kind, its_of(kind, row))
            self.assertGreaterEqual(compared, 5)

    def test_each_place_of_each_saying(self):
        """One point alone has letters: in no place may it be taken for another."""
        figure = WITHOUT_LETTERS[:4] + [[ROUND, 0, 3]] + WITHOUT_LETTERS[5:]
        for kind, count in POINTS_SAID.items():
            for place in range(count):
                row = [0, 1, 2, 5, 6, 3][:count]
                row[place] = 4
                with self.subTest(kind=kind, place=place):
                    its = row + NUMBERS.get(kind, [])
                    self.assertEqual(self.compare(figure, kind, its), 1)

    def test_times_at_its_edges(self):
        for numbers in ([1, 1], [1000, 1], [1, 1000], [1000, 1000], [7, 12]):
            with self.subTest(numbers=numbers):
                self.assertEqual(self.compare(WITHOUT_LETTERS, TIMES, [0, 3, 1, 2] + numbers), 1)
                self.assertEqual(self.compare(CEVIANS, TIMES, [3, 0, 4, 1] + numbers), 1)


class MultipliedOut(unittest.TestCase):
    """Terms by hand, small enough to be checked by eye."""

    START = [[FIXED, 0, 0], [FIXED, 2, 0], [FREE]]

    def left(self, kind, its, figure=None):
        answers = told(*(figure or self.START), *[asking(REST, kind, its, i=i) for i in range(SUMS_LEFT[kind])])
        return [rows_of_terms(answer) for answer in answers[-SUMS_LEFT[kind]:]]

    def test_same_and_middle(self):
        self.assertEqual(self.left(SAME, [2, 1]), [[(1, 1, 0, 0, 0), (-2, 0, 0, 0, 0)], [(1, 0, 1, 0, 0)]])
        self.assertEqual(self.left(SAME, [1, 2]), [[(-1, 1, 0, 0, 0), (2, 0, 0, 0, 0)], [(-1, 0, 1, 0, 0)]])
        self.assertEqual(self.left(MIDDLE, [2, 0, 1]), [[(2, 1, 0, 0, 0), (-2, 0, 0, 0, 0)], [(2, 0, 1, 0, 0)]])

    def test_line_and_areas(self):
        self.assertEqual(self.left(LINE, [0, 1, 2]), [[(2, 0, 1, 0, 0)]])
        self.assertEqual(self.left(LINE, [1, 0, 2]), [[(-2, 0, 1, 0, 0)]])
        self.assertEqual(self.left(AREAS, [0, 1, 2, 1, 0, 2]), [[(4, 0, 1, 0, 0)]])

    def test_parallel_and_right(self):
        self.assertEqual(self.left(PARALLEL, [0, 1, 0, 2]), [[(2, 0, 1, 0, 0)]])
        self.assertEqual(self.left(PARALLEL, [0, 2, 0, 1]), [[(-2, 0, 1, 0, 0)]])
        self.assertEqual(self.left(RIGHT, [0, 1, 1, 2]), [[(2, 1, 0, 0, 0), (-4, 0, 0, 0, 0)]])

    def test_equal_and_times(self):
        self.assertEqual(self.left(EQUAL, [0, 2, 0, 1]),
                         [[(1, 2, 0, 0, 0), (1, 0, 2, 0, 0), (-4, 0, 0, 0, 0)]])
        self.assertEqual(self.left(TIMES, [0, 2, 0, 1, 2, 3]),
                         [[(9, 2, 0, 0, 0), (9, 0, 2, 0, 0), (-16, 0, 0, 0, 0)]])

    def test_circle_and_touches(self):
        figure = [[FIXED, 0, 0], [FIXED, 1, 0], [FIXED, 0, 1], [FREE]]
        self.assertEqual(self.left(CIRCLE, [0, 1, 2, 3], figure),
                         [[(-1, 2, 0, 0, 0), (1, 1, 0, 0, 0), (-1, 0, 2, 0, 0), (1, 0, 1, 0, 0)]])
        self.assertEqual(self.left(TOUCHES, [0, 1, 3, 2], figure),
                         [[(-1, 2, 0, 0, 0), (2, 0, 1, 0, 0), (-1, 0, 0, 0, 0)]])

    def test_angles(self):
        figure = [[FIXED, 0, 0], [FIXED, 1, 0], [FIXED, 0, 1], [FREE]]
        self.assertEqual(self.left(ANGLES, [1, 0, 3, 1, 0, 2], figure), [[(-1, 1, 0, 0, 0)]])
        self.assertEqual(self.left(ANGLES, [1, 0, 2, 1, 0, 3], figure), [[(1, 1, 0, 0, 0)]])

    def test_through(self):
        figure = [[FIXED, 0, 0], [FIXED, 1, 0], [FIXED, 0, 1], [FREE]]
        self.assertEqual(self.left(THROUGH, [0, 1, 0, 2, 3, 1], figure), [[(-1, 0, 1, 0, 0)]])

    def test_alike(self):
        figure = [[FIXED, 0, 0], [FIXED, 1, 0], [FREE]]
        self.assertEqual(self.left(ALIKE, [0, 1, 2, 0, 1, 2], figure), [[], []])
        self.assertEqual(self.left(ALIKE, [0, 1, 2, 1, 0, 2], figure),
                         [[(2, 1, 0, 0, 0), (-1, 0, 0, 0, 0)], [(2, 0, 1, 0, 0)]])


# Of each kind a figure, and what holds in each drawing of it; then what does not.
TRUE_AND_NOT = {
    SAME: ([[FIXED, 0, 0], [FIXED, 6, 0], [FREE], [PART, 1, 2, 1, 2], [PART, 0, 2, 1, 2], [PART, 0, 3, 2, 3],
            [PART, 1, 4, 2, 3]], [5, 6], [5, 3]),
    LINE: ([[FIXED, 0, 0], [FIXED, 6, 0], [FREE], [CENTRE, 0, 1, 2], [PART, 0, 1, 1, 2], [PART, 2, 4, 2, 3],
            [MEET, 5, 3, 2, 0]], [3, 5, 6], [3, 5, 2]),
    PARALLEL: ([[FIXED, 1, 0], [FIXED, 4, 3], [FREE], [PART, 0, 2, 1, 2], [PART, 1, 2, 1, 2]], [0, 1, 3, 4],
               [0, 1, 3, 2]),
    RIGHT: ([[FIXED, 1, 2], [FIXED, 4, 6], [PART, 1, 0, 2, 1], [ROUND, 0, 1]], [3, 1, 3, 2], [3, 1, 3, 0]),
    EQUAL: ([[FIXED, 1, 2], [FIXED, 4, 6], [FREE], [MIRROR, 2, 0, 1]], [0, 2, 0, 3], [0, 2, 1, 3]),
    TIMES: ([[FIXED, 1, 2], [FREE], [PART, 0, 1, -3, 8]], [0, 2, 0, 1, 3, 8], [0, 2, 0, 1, 8, 3]),
    CIRCLE: ([[FIXED, 1, 2], [FIXED, 4, 6], [ROUND, 0, 1], [ROUND, 0, 1], [ROUND, 0, 1]], [1, 2, 3, 4], [0, 2, 3, 4]),
    ANGLES: ([[FIXED, 1, 2], [FIXED, 4, 6], [TURN, 0, 1], [ROUND, 0, 1], [ROUND, 0, 1]], [1, 3, 2, 1, 4, 2],
             [1, 3, 2, 1, 4, 0]),
    AREAS: ([[FIXED, 1, 2], [FREE], [FIXED, 5, 7], [ALONG, 0, 1, 2]], [0, 1, 2, 0, 1, 3], [0, 1, 2, 1, 0, 3]),
    THROUGH: ([[FIXED, 0, 0], [FIXED, 6, 0], [FREE], [FOOT, 0, 1, 2], [FOOT, 1, 2, 0], [FOOT, 2, 0, 1]],
              [0, 3, 1, 4, 2, 5], [0, 3, 1, 4, 2, 1]),
    MIDDLE: ([[FIXED, 1, 2], [FREE], [PART, 0, 1, 1, 2], [PART, 0, 1, 1, 3]], [2, 0, 1], [3, 0, 1]),
    TOUCHES: ([[FIXED, 1, 2], [FREE], [TURN, 1, 0]], [1, 2, 0, 1], [1, 2, 1, 0]),
    ALIKE: ([[FIXED, 1, 2], [FREE], [FIXED, 3, 7], [TURN, 0, 1], [TURN, 0, 2], [PART, 0, 3, 2, 1], [PART, 0, 4, 2, 1]],
            [0, 1, 2, 0, 5, 6], [0, 1, 2, 0, 6, 5]),
}


class Holds(unittest.TestCase):
    def test_nothing_is_left(self):
        for kind, (figure, its, other) in TRUE_AND_NOT.items():
            with self.subTest(kind=kind):
                count = SUMS_LEFT[kind]
                self.assertEqual(last(*figure, asking(HOLDS, kind, its)), [1])
                self.assertEqual(last(*figure, asking(RESTS, kind, its)), [count] + [0] * count)
                for i in range(count):
                    self.assertEqual(last(*figure, asking(REST, kind, its, i=i)), [0])

    def test_something_is_left_and_a_drawing_shows_it(self):
        for kind, (figure, its, other) in TRUE_AND_NOT.items():
            with self.subTest(kind=kind):
                self.assertEqual(last(*figure, asking(HOLDS, kind, other)), [0])
                self.assertGreater(sum(last(*figure, asking(RESTS, kind, other))[1:]), 0)
                whole = Whole()
                for step in figure:
                    whole.answer(step)
                drawings = grid(whole.saying_reach(kind, other))
                self.assertTrue(any(any(whole.left(kind, other, whole.at(letters))) for letters in drawings))

    def test_one_point_twice(self):
        figure = [[FREE], [FIXED, 1, 2], [TURN, 0, 1]]
        for kind, its, verdict in (
                (SAME, [2, 2], 1), (LINE, [0, 0, 2], 1), (LINE, [0, 2, 2], 1), (MIDDLE, [2, 2, 2], 1),
                (MIDDLE, [2, 2, 0], 0), (PARALLEL, [0, 0, 1, 2], 1), (PARALLEL, [0, 2, 2, 0], 1),
                (RIGHT, [0, 0, 1, 2], 1), (RIGHT, [0, 2, 0, 2], 0), (EQUAL, [0, 2, 2, 0], 1), (EQUAL, [0, 0, 1, 1], 1),
                (TIMES, [0, 0, 1, 1, 2, 3], 1), (TIMES, [0, 1, 0, 1, 2, 3], 0), (CIRCLE, [0, 0, 1, 2], 1),
                (TOUCHES, [0, 0, 1, 2], 1), (TOUCHES, [0, 1, 0, 0], 1), (ANGLES, [0, 0, 1, 2, 0, 1], 1),
                (AREAS, [0, 0, 1, 2, 2, 1], 1), (AREAS, [0, 0, 1, 2, 0, 1], 0), (THROUGH, [0, 0, 1, 2, 0, 1], 1),
                (THROUGH, [0, 1, 0, 2, 1, 0], 1), (ALIKE, [0, 0, 0, 1, 2, 0], 1), (ALIKE, [0, 1, 0, 0, 1, 2], 0)):
            with self.subTest(kind=kind, its=its):
                self.assertEqual(last(*figure, asking(HOLDS, kind, its)), [verdict])

    def test_both_sums_must_go(self):
        figure = [[FIXED, 3, 5], [FIXED, 3, 6], [FIXED, 4, 5], [FIXED, 3, 5]]
        found = told(*figure, *[asking(HOLDS, SAME, [0, p]) for p in range(1, 4)])
        self.assertEqual(found[4:], [[0], [0], [1]])

    def test_without_letters(self):
        figure = [[FIXED, 0, 0], [FIXED, 4, 2], [FIXED, -6, -3], [FIXED, 1, 1]]
        self.assertEqual(last(*figure, asking(HOLDS, LINE, [0, 1, 2])), [1])
        self.assertEqual(last(*figure, asking(HOLDS, LINE, [0, 1, 3])), [0])
        self.assertEqual(last(*figure, asking(REST, LINE, [0, 1, 3])), [1, 2, 0, 0, 0, 0])


class Rests(unittest.TestCase):
    def test_one_sum_or_two(self):
        figure = CEVIANS[:4]
        for kind in LEFT:
            its = its_of(kind, [3, 0, 1, 2, 0, 1])
            found = last(*figure, asking(RESTS, kind, its))
            self.assertEqual((found[0], len(found)), (SUMS_LEFT[kind], 1 + SUMS_LEFT[kind]))

    def test_two_of_which_one_is_nought(self):
        figure = [[FIXED, 0, 0], [FIXED, 1, 0], [ON, 0, 1], [FIXED, 0, 1], [ON, 0, 3]]
        self.assertEqual(last(*figure, asking(RESTS, SAME, [2, 1])), [2, 2, 0])
        self.assertEqual(last(*figure, asking(RESTS, SAME, [4, 3])), [2, 0, 2])
        self.assertEqual(last(*figure, asking(RESTS, MIDDLE, [2, 0, 1])), [2, 2, 0])
        self.assertEqual(last(*figure, asking(RESTS, ALIKE, [0, 1, 2, 0, 1, 1])), [2, 2, 0])
        self.assertEqual(last(*figure, asking(RESTS, ALIKE, [0, 1, 4, 0, 1, 0])), [2, 0, 1])

    def test_terms_that_are_too_great_are_counted(self):
        far = [[FIXED, 0, 0], [FIXED, 1000, 1]] + [[PART, 0, p, 100, 1] for p in range(1, 8)]
        self.assertEqual(last(*far, asking(RESTS, SAME, [8, 0])), [2, 1, 1])
        self.assertEqual(last(*far, asking(HOLDS, SAME, [8, 0])), [0])


class Rest(unittest.TestCase):
    def test_no_such_sum(self):
        for kind, (figure, its, other) in TRUE_AND_NOT.items():
            for row in (its, other):
                with self.subTest(kind=kind, row=row):
                    for i in (SUMS_LEFT[kind], SUMS_LEFT[kind] + 1, MOST):
                        self.assertEqual(last(*figure, asking(REST, kind, row, i=i)), [-2])
                    self.assertNotEqual(last(*figure, asking(REST, kind, row, i=SUMS_LEFT[kind] - 1)), [-2])

    def test_two_of_which_one_is_nought(self):
        figure = [[FIXED, 0, 0], [FIXED, 1, 0], [ON, 0, 1]]
        self.assertEqual(last(*figure, asking(REST, SAME, [2, 1], i=0)), [2, 1, 1, 0, 0, 0, -1, 0, 0, 0, 0])
        self.assertEqual(last(*figure, asking(REST, SAME, [2, 1], i=1)), [0])

    def test_terms_that_are_too_great(self):
        far = [[FIXED, 0, 0], [FIXED, 1000, 0]] + [[PART, 0, p, 100, 1] for p in range(1, 7)]
        figure = far + [[FIXED, 1, 0], [ALONG, 0, 8, 7]]
        self.assertEqual(last(*figure, asking(REST, SAME, [7, 0])), [1, 10 ** 15, 0, 0, 0, 0])
        self.assertEqual(last(*figure, asking(REST, SAME, [0, 7])), [1, -10 ** 15, 0, 0, 0, 0])
        self.assertEqual(last(*figure, asking(REST, SAME, [9, 8])), [1, 10 ** 15, 0, 0, 0, 0])
        self.assertEqual(last(*figure, asking(REST, SAME, [9, 0])), [-75])
        self.assertEqual(last(*figure, asking(REST, SAME, [0, 9])), [-75])
        self.assertEqual(last(*figure, asking(REST, SAME, [9, 0], i=1)), [0])
        self.assertEqual(last(*figure, asking(REST, SAME, [9, 0], i=2)), [-2])

    def test_one_great_term_of_several(self):
        far = [[FIXED, 0, 0], [FIXED, 1000, 0]] + [[PART, 0, p, 100, 1] for p in range(1, 8)]
        self.assertEqual(last(*far, [FREE], asking(REST, SAME, [9, 8])), [-75])
        self.assertEqual(last(*far, [FREE], asking(REST, SAME, [9, 8], i=1)), [1, 1, 0, 1, 0, 0])
        self.assertEqual(last(*far, [FREE], asking(REST, SAME, [9, 7])), [2, 1, 1, 0, 0, 0, -10 ** 15, 0, 0, 0, 0])

    def test_a_point_whose_w_is_a_number(self):
        figure = [[FREE], [FIXED, 2, 4], [PART, 0, 1, 1, 2], [PART, 0, 1, 2, 4]]
        self.assertEqual(last(*figure, asking(REST, SAME, [2, 3])), [0])
        self.assertEqual(last(*figure, asking(REST, SAME, [2, 1])), [2, 1, 1, 0, 0, 0, -2, 0, 0, 0, 0])
        self.assertEqual(last(*figure, asking(REST, SAME, [3, 1])), [2, 2, 1, 0, 0, 0, -4, 0, 0, 0, 0])


class Power(unittest.TestCase):
    FIGURE = [[FREE], [FIXED, 1, 2], [ON, 0, 1], [ROUND, 1, 0]]

    def test_greatest_of_what_is_left(self):
        figure = [[FIXED, 0, 0], [FIXED, 2, 0], [FREE], [INVERSE, 0, 1, 2]]
        # x is 4 s, y is 4 t, w is s s + t t: s w - 4 s; t w - 4 t.
        self.assertEqual(last(*figure, asking(POWER, SAME, [2, 3], letter=0)), [3])
        self.assertEqual(last(*figure, asking(POWER, SAME, [2, 3], letter=1)), [3])
        self.assertEqual(last(*figure, asking(POWER, LINE, [0, 1, 2], letter=1)), [1])

    def test_over_two_sums(self):
        figure = [[FREE], [FIXED, 0, 0]]
        self.assertEqual(last(*figure, asking(POWER, SAME, [0, 1], letter=0)), [1])
        self.assertEqual(last(*figure, asking(POWER, SAME, [0, 1], letter=1)), [1])

    def test_a_letter_in_no_term(self):
        self.assertEqual(last(*self.FIGURE, asking(POWER, SAME, [0, 1], letter=2)), [0])
        self.assertEqual(last(*self.FIGURE, asking(POWER, SAME, [0, 1], letter=3)), [0])
        self.assertEqual(last([FIXED, 1, 1], [ON, 0, 0], asking(POWER, SAME, [1, 0])), [0])

    def test_nothing_left(self):
        for letter in range(4):
            self.assertEqual(last(*self.FIGURE, asking(POWER, LINE, [0, 1, 2], letter=letter)), [0])

    def test_no_such_letter(self):
        for letter in (4, 5, MOST):
            self.assertEqual(last(*self.FIGURE, asking(POWER, SAME, [0, 1], letter=letter)), [-2])
        self.assertEqual(last([FREE], asking(POWER, SAME, [0, 0], letter=2)), [-2])
        self.assertEqual(last([FIXED, 1, 2], asking(POWER, SAME, [0, 0])), [-2])

    def test_not_the_reach(self):
        figure = [[FREE], [FIXED, 1, 1], [TURN, 0, 1]]
        self.assertEqual(last(*figure, asking(POWER, PARALLEL, [0, 1, 0, 1])), [0])
        self.assertEqual(last(*figure, asking(POWER, RIGHT, [0, 1, 0, 1])), [2])
        self.assertEqual(last(*figure, asking(POWER, RIGHT, [0, 1, 0, 2])), [0])


if __name__ == "__main__":
    unittest.main()
