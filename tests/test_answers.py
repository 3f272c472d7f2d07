"""How calls are handed in and answers given back; begin, and calls ahead of it."""

import unittest

from drawnsums.figure import answers
from drawnsums.reading import read_calls
from drawnsums.sums import terms
from tests.helper import (ALONG, AT, BEGIN, CENTRE, COMMON, DEGREE, FIXED, FOOT, FREE, GOES, HOLDS, INVERSE, IS, MEET,
                          MIRROR, NUMBERS, ON, OUT, PART, POINTS, POWER, REST, RESTS, ROUND, SECOND, STEP, TURN, ask,
                          drawn, flat)

EVERY_OTHER_CALL = [
    [FIXED, -3, 4], [FREE], [ON, 0, 1], [PART, 0, 1, -2, 3], [ALONG, 0, 1, 2], [MEET, 0, 1, 2, 3], [FOOT, 0, 1, 2],
    [MIRROR, 0, 1, 2], [TURN, 0, 1], [CENTRE, 0, 1, 2], [SECOND, 0, 1, 2], [ROUND, 0, 1], [INVERSE, 0, 1, 2],
    [OUT], [POINTS], [STEP, 0], [NUMBERS, 0, 1], [DEGREE, 0, 1], [COMMON, 0],
    [HOLDS, 1, 3, 0, 0, 0], [RESTS, 1, 3, 0, 0, 0], [REST, 1, 0, 3, 0, 0, 0], [POWER, 1, 0, 3, 0, 0, 0],
    [AT, 1, 0, 3, 0, 0, 0, 2, 0, -5], [IS, 1, 0, 3, 0, 0, 0, 5, 0, 0, 0, 0, 0], [GOES, 1, 0, 0, -7, 3, 0, 0, 0],
]
# Every row empty: the shortest form of a call that has rows.
EMPTY_ROWS = [[HOLDS, 0, 0], [RESTS, 0, 0], [REST, 0, 0, 0], [POWER, 0, 0, 0], [AT, 0, 0, 0, 0], [IS, 0, 0, 0, 0],
              [GOES, 0, 0, 0, 0, 0]]
TRIANGLE = [[BEGIN], [FIXED, 0, 0], [FIXED, 4, 0], [FREE], [CENTRE, 0, 1, 2]]


class HandedIn(unittest.TestCase):
    def test_counts_then_numbers(self):
        self.assertEqual(answers([BEGIN]), [1, 0])
        self.assertEqual(answers(flat(TRIANGLE)), [1, 0, 1, 0, 1, 1, 1, 2, 1, 3])

    def test_a_refusal_is_its_number_alone(self):
        self.assertEqual(answers([BEGIN, ON, 0, 0, FREE]), [1, 0, 1, -2, 1, 0])

    def test_one_call_of_each_kind_is_read(self):
        calls = [[BEGIN]] + EVERY_OTHER_CALL + EMPTY_ROWS
        found = read_calls(flat(calls))
        self.assertEqual([call.number for call in found], [call[0] for call in calls])
        self.assertEqual(found[4].told, [0, 1, -2, 3])

    def test_rows_are_read_by_their_counts(self):
        call = read_calls([AT, 1, 0, 3, 7, 8, 9, 2, 0, -5, BEGIN])[0]
        self.assertEqual((call.told, call.rows), ([1, 0], [[7, 8, 9], [0, -5]]))

    def test_the_list_stays_as_it_was(self):
        calls = flat(TRIANGLE)
        before = list(calls)
        answers(calls)
        self.assertEqual(calls, before)

    def test_a_second_time_answers_as_the_first(self):
        calls = flat(TRIANGLE)
        first = answers(calls)
        self.assertEqual(answers(calls), first)
        self.assertEqual(answers([FREE]), [1, -61])
        self.assertEqual(answers(calls), first)

    def test_what_is_given_back_is_new_each_time(self):
        first = answers([BEGIN])
        first.append(5)
        self.assertEqual(answers([BEGIN]), [1, 0])

    def test_given_back_is_a_list_of_whole_numbers(self):
        given = answers(flat(TRIANGLE))
        self.assertIs(type(given), list)
        self.assertEqual({type(number) for number in given}, {int})

    def test_sixty_calls(self):
        self.assertEqual(answers([BEGIN] * 60), [1, 0] * 60)


class Begin(unittest.TestCase):
    def test_every_other_call_ahead_of_it(self):
        for call in EVERY_OTHER_CALL + EMPTY_ROWS:
            with self.subTest(call=call):
                self.assertEqual(answers(call), [1, -61])
                self.assertEqual(ask(call, [BEGIN], [FREE]), [-61, 0, 0])

    def test_all_of_them_behind_one_another(self):
        calls = EVERY_OTHER_CALL + EMPTY_ROWS
        self.assertEqual(ask(*calls, [BEGIN], [FREE]), [-61] * len(calls) + [0, 0])

    def test_what_is_wrong_is_not_looked_at_ahead_of_it(self):
        self.assertEqual(ask([FIXED, 1001, 0], [PART, 9, 9, 101, 0], [MEET, 7, 7, 7, 7]), [-61] * 3)

    def test_a_step_ahead_of_it_draws_nothing(self):
        self.assertEqual(ask([FREE], [BEGIN], [TURN, 0, 0]), [-61, 0, -2])

    def test_later_on_nothing_is_drawn(self):
        self.assertEqual(ask([BEGIN], [FREE], [TURN, 0, 0], [BEGIN], [TURN, 0, 0], [FIXED, 1, 2], [TURN, 0, 0]),
                         [0, 0, 1, 0, -2, 0, 1])

    def test_later_on_there_are_no_letters(self):
        self.assertEqual(ask([BEGIN], [FREE], [FREE], [FREE], [BEGIN], [FREE], [FREE], [FREE]),
                         [0, 0, 1, -28, 0, 0, 1, -28])
        figure = drawn([FREE], [BEGIN], [FREE])
        self.assertEqual(terms(figure.points[0].x), [(1, 1, 0, 0, 0)])
        self.assertEqual(terms(figure.points[0].y), [(1, 0, 1, 0, 0)])

    def test_later_on_there_is_room_for_twelve_points(self):
        twelve = [[FIXED, 0, 0]] * 12
        self.assertEqual(ask([BEGIN], *twelve, [BEGIN], *twelve, [FREE]),
                         [0] + list(range(12)) + [0] + list(range(12)) + [-28])


if __name__ == "__main__":
    unittest.main()
