"""numbers, degree and common of a point."""

import unittest

from tests.helper import (ALONG, CENTRE, COMMON, DEGREE, FIXED, FREE, INVERSE, MEET, MOST, NUMBERS, ON, PART, ROUND,
                          TURN, Plain, come_to, grid, last, rows_of_terms, told)

# From (0, 0) and (1000, 0): points 2 to 7, of which each is 100 times as far out; w is 1.
FAR_OUT = [[FIXED, 0, 0], [FIXED, 1000, 0]] + [[PART, 0, p, 100, 1] for p in range(1, 7)]
FAR_BELOW = FAR_OUT[:-1] + [[PART, 0, 6, -100, 1]]
CEVIANS = [[FIXED, 1, 2], [FIXED, 9, -1], [FIXED, 3, 8], [FREE], [MEET, 3, 0, 1, 2], [MEET, 3, 1, 2, 0],
           [MEET, 3, 2, 0, 1]]


class Numbers(unittest.TestCase):
    def test_each_of_x_y_w(self):
        found = told([FIXED, -3, 0], [NUMBERS, 0, 0], [NUMBERS, 0, 1], [NUMBERS, 0, 2])
        self.assertEqual(found[1:], [[1, -3, 0, 0, 0, 0], [0], [1, 1, 0, 0, 0, 0]])

    def test_terms_in_order(self):
        calls = [[FIXED, 0, 0], [FIXED, 2, 0], [FREE], [CENTRE, 0, 1, 2]]
        found = told(*calls, *[[NUMBERS, 3, i] for i in range(3)])
        self.assertEqual(found[4:], [[1, 4, 0, 1, 0, 0], [3, 2, 2, 0, 0, 0, -4, 1, 0, 0, 0, 2, 0, 2, 0, 0],
                                     [1, 4, 0, 1, 0, 0]])

    def test_by_the_words(self):
        steps = CEVIANS + [[ROUND, 4, 5], [TURN, 7, 6], [ON, 5, 6], [ALONG, 9, 3, 4]]
        plain = Plain()
        for step in steps:
            plain.answer(step)
        found = told(*steps, *[[NUMBERS, p, i] for p in range(11) for i in range(3)])[11:]
        for p in range(11):
            rows = [rows_of_terms(found[3 * p + i]) for i in range(3)]
            for row in rows:
                powers = [term[1:] for term in row]
                self.assertEqual(powers, sorted(set(powers), reverse=True))
                self.assertNotIn(0, [term[0] for term in row])
                for power in powers:
                    self.assertTrue(all(one <= reach for one, reach in zip(power, plain.reaches[p])))
            for letters in grid(plain.reaches[p]):
                self.assertEqual(tuple(come_to(row, letters) for row in rows), plain.at(letters)[p])

    def test_no_such_point(self):
        self.assertEqual(last([NUMBERS, 0, 0]), [-2])
        self.assertEqual(last([FREE], [NUMBERS, 1, 0]), [-2])
        self.assertEqual(last([FREE], [NUMBERS, MOST, 0]), [-2])

    def test_no_such_number_of_it(self):
        for i in (3, 4, MOST):
            self.assertEqual(last([FREE], [NUMBERS, 0, i]), [-22])

    def test_terms_that_are_too_great(self):
        self.assertEqual(last(*FAR_OUT, [NUMBERS, 7, 0]), [1, 10 ** 15, 0, 0, 0, 0])
        self.assertEqual(last(*FAR_BELOW, [NUMBERS, 7, 0]), [1, -10 ** 15, 0, 0, 0, 0])
        self.assertEqual(last(*FAR_OUT, [FIXED, 1, 0], [ALONG, 0, 8, 7], [NUMBERS, 9, 0]), [-75])
        self.assertEqual(last(*FAR_BELOW, [FIXED, -1, 0], [ALONG, 0, 8, 7], [NUMBERS, 9, 0]), [-75])
        self.assertEqual(last(*FAR_OUT, [FIXED, -1, 0], [ALONG, 0, 8, 7], [NUMBERS, 9, 0]),
                         [1, 10 ** 15 - 1, 0, 0, 0, 0])

    def test_only_the_terms_that_are_asked_for(self):
        found = told(*FAR_OUT, [FIXED, 1, 2], [ALONG, 0, 8, 7], [NUMBERS, 9, 0], [NUMBERS, 9, 1], [NUMBERS, 9, 2])
        self.assertEqual(found[10:], [[-75], [1, 2, 0, 0, 0, 0], [1, 1, 0, 0, 0, 0]])

    def test_one_great_term_of_several(self):
        found = told(*FAR_OUT, [FIXED, 1, 0], [ALONG, 0, 8, 7], [ON, 0, 9], [ON, 9, 0], [NUMBERS, 10, 0],
                     [NUMBERS, 11, 0], [NUMBERS, 11, 1])
        self.assertEqual(found[12:], [[-75], [-75], [0]])
        self.assertEqual(last(*FAR_OUT, [ON, 7, 0], [NUMBERS, 8, 0]),
                         [2, -10 ** 15, 1, 0, 0, 0, 10 ** 15, 0, 0, 0, 0])

    def test_which_of_several(self):
        self.assertEqual(last([FREE], [NUMBERS, 1, 3]), [-2])
        self.assertEqual(last(*FAR_OUT, [TURN, 7, 1], [NUMBERS, 8, 3]), [-22])


class Degree(unittest.TestCase):
    def test_greatest_of_the_three(self):
        start = [[FIXED, 0, 0], [FIXED, 3, 0], [FREE], [INVERSE, 0, 1, 2]]
        found = told(*start, [DEGREE, 3, 0], [DEGREE, 3, 1], [DEGREE, 2, 0], [DEGREE, 2, 1], [DEGREE, 0, 1])
        self.assertEqual(found[4:], [[2], [2], [1], [1], [0]])
        start = [[FIXED, 0, 0], [FIXED, 2, 0], [FREE], [CENTRE, 0, 1, 2]]
        self.assertEqual(told(*start, [DEGREE, 3, 0], [DEGREE, 3, 1])[4:], [[2], [2]])

    def test_in_one_of_the_three_alone(self):
        self.assertEqual(told([FREE], [DEGREE, 0, 0], [DEGREE, 0, 1])[1:], [[1], [1]])
        found = told([FIXED, 0, 0], [FREE], [FIXED, 1, 0], [MEET, 0, 1, 0, 2], *[[NUMBERS, 3, i] for i in range(3)],
                     [DEGREE, 3, 0], [DEGREE, 3, 1])
        self.assertEqual(found[4:], [[0], [0], [1, -1, 0, 1, 0, 0], [0], [1]])

    def test_a_letter_that_is_in_no_term(self):
        self.assertEqual(last([FIXED, 3, 5], [ON, 0, 0], [DEGREE, 1, 0]), [0])
        self.assertEqual(last([FREE], [FREE], [DEGREE, 0, 3]), [0])

    def test_not_the_reach(self):
        self.assertEqual(last([FIXED, 3, 5], [ON, 0, 0], [TURN, 1, 1], [DEGREE, 2, 0]), [0])
        self.assertEqual(last([FREE], [TURN, 0, 0], [DEGREE, 1, 0]), [1])

    def test_no_such_point_or_letter(self):
        self.assertEqual(last([DEGREE, 0, 0]), [-2])
        self.assertEqual(last([FREE], [DEGREE, 1, 0]), [-2])
        self.assertEqual(last([FREE], [DEGREE, MOST, MOST]), [-2])
        for letter in (2, 3, 4, MOST):
            self.assertEqual(last([FREE], [DEGREE, 0, letter]), [-2])
        self.assertEqual(last([FIXED, 1, 2], [DEGREE, 0, 0]), [-2])
        self.assertEqual(last([FREE], [FREE], [DEGREE, 0, 4]), [-2])

    def test_of_terms_that_are_too_great_to_be_told(self):
        self.assertEqual(last(*FAR_OUT, [TURN, 7, 1], [ON, 0, 8], [DEGREE, 9, 0]), [1])


class Common(unittest.TestCase):
    def test_numbers_that_two_divides(self):
        self.assertEqual(last([FIXED, 2, 4], [FIXED, 6, 8], [PART, 0, 1, 1, 2], [COMMON, 2]), [2])
        self.assertEqual(last([FIXED, 2, 4], [FIXED, 6, 8], [PART, 0, 1, 1, 2], [TURN, 2, 2], [COMMON, 3]), [4])
        self.assertEqual(last([FIXED, 0, 0], [FIXED, 2, 0], [FREE], [CENTRE, 0, 1, 2], [COMMON, 3]), [2])

    def test_nothing_in_common(self):
        self.assertEqual(last([FIXED, 2, 4], [COMMON, 0]), [1])
        self.assertEqual(last([FREE], [COMMON, 0]), [1])

    def test_x_and_y_nought(self):
        self.assertEqual(last([FIXED, 0, 0], [PART, 0, 0, 5, 6], [COMMON, 1]), [6])

    def test_below_nought(self):
        self.assertEqual(last([FIXED, 0, -6], [FIXED, 0, -4], [PART, 0, 1, 0, 4], [COMMON, 2]), [4])
        self.assertEqual(last([FIXED, 0, 0], [FIXED, 0, 3], [FIXED, 6, 0], [MEET, 0, 1, 0, 2], [NUMBERS, 3, 2]),
                         [1, -18, 0, 0, 0, 0])
        self.assertEqual(last([FIXED, 0, 0], [FIXED, 0, 3], [FIXED, 6, 0], [MEET, 0, 1, 0, 2], [COMMON, 3]), [18])

    def test_one_number_decides(self):
        self.assertEqual(last([FIXED, 6, 0], [FIXED, 0, 10], [PART, 0, 1, 15, 30], [COMMON, 2]), [30])
        self.assertEqual(last([FIXED, 1, 0], [FIXED, 0, 10], [PART, 0, 1, 15, 30], [COMMON, 2]), [15])
        self.assertEqual(last([FIXED, 6, 0], [FIXED, 0, 1], [PART, 0, 1, 16, 30], [COMMON, 2]), [2])

    def test_no_such_point(self):
        self.assertEqual(last([COMMON, 0]), [-2])
        self.assertEqual(last([FREE], [COMMON, 1]), [-2])
        self.assertEqual(last([FREE], [COMMON, MOST]), [-2])

    def test_too_great(self):
        calls = FAR_OUT + [[FIXED, 1, 1], [ALONG, 0, 8, 7]]
        self.assertEqual(last(*calls, [MEET, 0, 7, 0, 8], [COMMON, 10]), [10 ** 15])
        self.assertEqual(last(*calls, [FIXED, 0, 1], [MEET, 0, 9, 0, 10], [NUMBERS, 11, 2]), [-75])
        self.assertEqual(last(*calls, [FIXED, 0, 1], [MEET, 0, 9, 0, 10], [COMMON, 11]), [-75])

    def test_numbers_above_it_with_little_in_common(self):
        self.assertEqual(last(*FAR_OUT, [FIXED, 1, 0], [ALONG, 0, 8, 7], [COMMON, 9]), [1])


if __name__ == "__main__":
    unittest.main()
