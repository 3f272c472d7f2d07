"""out, points and step: what is drawn, taken out and told again."""

import unittest

from tests.helper import (ALONG, BEGIN, CENTRE, DEGREE, FIXED, FOOT, FREE, HOLDS, INVERSE, MEET, MIRROR, MOST, NUMBERS,
                          ON, OUT, PART, POINTS, POINTS_TOLD, ROUND, SECOND, STEP, TURN, ask, last, told)

CORNERS = [[FIXED, 0, 0], [FIXED, 7, 0], [FIXED, 0, 5], [FIXED, 4, 9]]
NUMBERS_TOLD = {FIXED: [-8, 1000], PART: [-3, 100]}
LETTERS = {FREE: 2, ON: 1, ROUND: 1}
EACH_STEP = [[kind, *reversed(range(count)), *NUMBERS_TOLD.get(kind, [])] for kind, count in POINTS_TOLD.items()]


class Out(unittest.TestCase):
    def test_no_point(self):
        self.assertEqual(last([OUT]), [-2])
        self.assertEqual(told([FREE], [OUT], [OUT], [OUT], [FIXED, 1, 1]), [[0], [0], [-2], [-2], [0]])

    def test_how_many_points_there_are(self):
        self.assertEqual(told(*CORNERS, [OUT], [OUT], [POINTS], [OUT], [OUT], [OUT]),
                         [[0], [1], [2], [3], [3], [2], [2, 0], [1], [0], [-2]])

    def test_each_steps_letters_go_with_it(self):
        for step in EACH_STEP:
            with self.subTest(step=step):
                found = told(*CORNERS, [ON, 0, 1], step, [POINTS], [OUT], [POINTS])
                self.assertEqual(found[-4:], [[5], [6, 1 + LETTERS.get(step[0], 0)], [5], [5, 1]])

    def test_only_the_last_point_goes(self):
        found = told([FIXED, 1, 2], [FREE], [ON, 0, 1], [OUT], [STEP, 0], [STEP, 1], [STEP, 2], [NUMBERS, 1, 1])
        self.assertEqual(found[-5:], [[2], [0, 1, 2], [1], [-2], [1, 1, 0, 1, 0, 0]])

    def test_letters_are_taken_up_again(self):
        start = [[FIXED, 0, 0], [FIXED, 1, 1], [ON, 0, 1]]
        found = told(*start, [FREE], [OUT], [ROUND, 0, 1], [NUMBERS, 3, 2], [FREE], [POINTS])
        self.assertEqual(found[3:], [[3], [3], [3], [2, 1, 0, 2, 0, 0, 1, 0, 0, 0, 0], [4], [5, 4]])
        found = told([FREE], [FREE], [OUT], [FREE], [NUMBERS, 1, 0], [NUMBERS, 1, 1], [OUT], [OUT], [FREE],
                     [NUMBERS, 0, 0])
        self.assertEqual(found[4:6], [[1, 1, 0, 0, 1, 0], [1, 1, 0, 0, 0, 1]])
        self.assertEqual(found[-1], [1, 1, 1, 0, 0, 0])

    def test_there_is_room_again(self):
        twelve = [[FIXED, 0, 0]] * 12
        self.assertEqual(ask([BEGIN], *twelve, [FIXED, 0, 0], [OUT], [FIXED, 0, 0], [FIXED, 0, 0])[-4:],
                         [-28, 11, 11, -28])
        self.assertEqual(ask([BEGIN], [FREE], [FREE], [FREE], [OUT], [FREE], [ON, 0, 1])[3:], [-28, 1, 1, -28])

    def test_a_letter_in_no_term_goes_too(self):
        self.assertEqual(told([FIXED, 3, 5], [ON, 0, 0], [POINTS], [OUT], [POINTS])[2:], [[2, 1], [1], [1, 0]])

    def test_what_is_gone_is_no_longer_there(self):
        found = told([FREE], [FREE], [OUT], [TURN, 0, 1], [DEGREE, 0, 2], [HOLDS, 0, 2, 0, 1])
        self.assertEqual(found[3:], [[-2], [-2], [-2]])

    def test_another_step_in_its_place(self):
        found = told(*CORNERS, [TURN, 0, 1], [OUT], [PART, 1, 0, 2, 3], [STEP, 4], [NUMBERS, 4, 2])
        self.assertEqual(found[-2:], [[3, 1, 0, 2, 3], [1, 3, 0, 0, 0, 0]])


class Points(unittest.TestCase):
    def test_none(self):
        self.assertEqual(last([POINTS]), [0, 0])
        self.assertEqual(last([FREE], [BEGIN], [POINTS]), [0, 0])

    def test_as_they_are_drawn(self):
        steps = [[FIXED, 0, 0], [FREE], [ON, 0, 1], [ROUND, 0, 1], [TURN, 2, 3]]
        found = told(*[call for step in steps for call in (step, [POINTS])])
        self.assertEqual(found[1::2], [[1, 0], [2, 2], [3, 3], [4, 4], [5, 4]])

    def test_refused_steps_do_not_count(self):
        found = told([FREE], [FREE], [FREE], [POINTS], [MEET, 0, 0, 0, 0], [TURN, 0, 5], [POINTS])
        self.assertEqual(found[3:], [[2, 4], [-33], [-2], [2, 4]])

    def test_twelve(self):
        self.assertEqual(last(*[[FIXED, 1, 1]] * 12, [POINTS]), [12, 0])


class Step(unittest.TestCase):
    def test_no_such_point(self):
        self.assertEqual(last([STEP, 0]), [-2])
        for p in (4, 5, 12, MOST):
            self.assertEqual(last(*CORNERS, [STEP, p]), [-2])

    def test_each_kind_as_it_was_told(self):
        for step in EACH_STEP:
            with self.subTest(step=step):
                self.assertEqual(last(*CORNERS, step, [STEP, 4]), [step[0] - 1] + step[1:])

    def test_by_hand(self):
        for step, answer in (([FIXED, -1000, 0], [0, -1000, 0]), ([FREE], [1]), ([ON, 2, 0], [2, 2, 0]),
                             ([PART, 3, 1, -100, 1], [3, 3, 1, -100, 1]), ([ALONG, 2, 0, 2], [4, 2, 0, 2]),
                             ([MEET, 3, 0, 2, 1], [5, 3, 0, 2, 1]), ([FOOT, 1, 0, 2], [6, 1, 0, 2]),
                             ([MIRROR, 3, 2, 1], [7, 3, 2, 1]), ([TURN, 1, 1], [8, 1, 1]),
                             ([CENTRE, 2, 1, 0], [9, 2, 1, 0]), ([SECOND, 3, 0, 1], [10, 3, 0, 1]),
                             ([ROUND, 3, 0], [11, 3, 0]), ([INVERSE, 2, 0, 1], [12, 2, 0, 1])):
            with self.subTest(step=step):
                self.assertEqual(last(*CORNERS, step, [FIXED, 1, 1], [STEP, 4]), answer)

    def test_all_points_of_a_figure(self):
        steps = CORNERS + [[FREE], [ON, 4, 0], [PART, 5, 4, 0, 7], [TURN, 6, 5]]
        found = told(*steps, *[[STEP, p] for p in range(8)])
        self.assertEqual(found[8:], [[step[0] - 1] + step[1:] for step in steps])


if __name__ == "__main__":
    unittest.main()
