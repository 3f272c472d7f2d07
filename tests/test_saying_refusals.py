"""Point 4: what each call from holds to goes is refused for, at its edges, and which of several is answered."""

import unittest

from tests.helper import (ALIKE, ALONG, ANGLES, AREAS, AT, CIRCLE, EQUAL, FIXED, FREE, GOES, HOLDS, IS, LINE, MIDDLE,
                          MOST, ON, PARALLEL, POINTS, POINTS_SAID, POWER, REST, RESTS, RIGHT, ROUND, SAME, THROUGH,
                          TIMES, TOUCHES, TURN, asking, last, told)

CALLS = (HOLDS, RESTS, REST, POWER, AT, IS, GOES)
CORNERS = [[FIXED, 0, 0], [FIXED, 7, 0], [FREE], [FIXED, 4, 9]]
VALUES = [3, 4]
TOO_MUCH = [-75]
TWICE = {EQUAL: (2, 2, 2, 2), TIMES: (2, 2, 2, 2), CIRCLE: (2, 2, 2, 2), TOUCHES: (2, 2, 2, 2),
         ANGLES: (1, 2, 1, 1, 2, 1)}
ONCE = (SAME, LINE, PARALLEL, RIGHT, AREAS, THROUGH, MIDDLE, ALIKE)


def row_of(kind, points):
    """A saying's numbers, with m and n behind the points where it takes them."""
    return list(points) + ([2, 3] if kind == TIMES else [])


def plain_row(kind):
    return row_of(kind, [p % 4 for p in range(POINTS_SAID[kind])])


class Refusals(unittest.TestCase):
    def each(self, figure, kind, its, answer, **more):
        """All seven calls are refused by this number, alone."""
        for call in CALLS:
            with self.subTest(call=call, kind=kind, its=its):
                self.assertEqual(last(*figure, asking(call, kind, its, **more)), [answer])

    def none(self, figure, kind, its, **more):
        """None of the seven calls is refused."""
        for call in CALLS:
            with self.subTest(call=call, kind=kind, its=its):
                self.assertGreaterEqual(last(*figure, asking(call, kind, its, **more))[0], 0)


class DoesNotFit(Refusals):
    def test_these_fit(self):
        for kind in POINTS_SAID:
            self.none(CORNERS, kind, plain_row(kind), values=VALUES)

    def test_no_such_kind(self):
        for kind in (13, 14, 100, MOST):
            for count in range(7):
                self.each(CORNERS, kind, [0, 1, 2, 3, 0, 1][:count], -22, values=VALUES)

    def test_rows_too_short_or_too_long(self):
        for kind in POINTS_SAID:
            right = len(plain_row(kind))
            for count in range(7):
                if count != right:
                    self.each(CORNERS, kind, [1, 2, 3, 1, 2, 3][:count], -22, values=VALUES)

    def test_last_two_of_times(self):
        for number in (1, 2, 999, 1000):
            self.none(CORNERS, TIMES, [0, 1, 2, 3, number, 1], values=VALUES)
            self.none(CORNERS, TIMES, [0, 1, 2, 3, 1, number], values=VALUES)
        for number in (0, 1001, MOST):
            self.each(CORNERS, TIMES, [0, 1, 2, 3, number, 1], -22, values=VALUES)
            self.each(CORNERS, TIMES, [0, 1, 2, 3, 1, number], -22, values=VALUES)

    def test_the_last_two_of_others_are_points(self):
        for kind in (ANGLES, AREAS, THROUGH, ALIKE):
            self.none(CORNERS, kind, [1, 2, 3, 1, 0, 0], values=VALUES)
            self.each(CORNERS, kind, [1, 2, 3, 1, 2, 1000], -2, values=VALUES)

    def test_nothing_is_drawn(self):
        self.each([], ALIKE, [], -22)
        self.each([], 13, [0, 0], -22)


class NoPoint(Refusals):
    def test_each_place_of_each_saying(self):
        for kind, count in POINTS_SAID.items():
            for place in range(count):
                for missing in (4, MOST):
                    its = plain_row(kind)
                    its[place] = missing
                    self.each(CORNERS, kind, its, -2, values=VALUES)

    def test_nothing_is_drawn(self):
        for kind, count in POINTS_SAID.items():
            self.each([], kind, row_of(kind, [0] * count), -2)

    def test_a_point_that_was_there(self):
        self.each(CORNERS + [[FREE], [14]], SAME, [0, 4], -2, values=VALUES)


# From points 0 and 1, and 2 of reach 1: points 3 to 7, of reach 3, 9, 11, 33 and 99 in letter 0.
NINETY_NINE = [[FIXED, 0, 0], [FIXED, 3, 1], [ON, 0, 1], [ALONG, 2, 2, 2], [ALONG, 3, 3, 3], [ALONG, 4, 2, 2],
               [ALONG, 5, 5, 5], [ALONG, 6, 6, 6]]
# Point 8 has a reach of 99 in letter 0 and of 1 in letter 1, point 9 one of 100 in letter 0.
WIDE = NINETY_NINE + [[ON, 7, 0], [TURN, 7, 2]]
# Point 6 has a reach of 33 in letter 0, 7 of 66; point 8 one of 2 in letter 1, point 9 one of 1 in letter 2.
SIXTY_SIX = NINETY_NINE[:-1] + [[TURN, 6, 6], [ROUND, 0, 1], [ON, 0, 1]]
TWO_VALUES = [0, 0]


class TooMuch(Refusals):
    def test_two_hundred_places(self):
        for kind in ONCE:
            count = POINTS_SAID[kind]
            for place in range(count):
                its = [0] * count
                its[place] = 8
                self.none(WIDE, kind, its, values=TWO_VALUES)

    def test_more_where_each_point_counts_once(self):
        for kind in ONCE:
            count = POINTS_SAID[kind]
            for place in range(count):
                its = [2] * count
                its[place] = 8
                for other in range(count):
                    if other != place:
                        one = [1] * count
                        one[place], one[other] = 8, 2
                        self.each(WIDE, kind, one, -75, values=TWO_VALUES)
                self.each(WIDE, kind, its, -75, values=TWO_VALUES)

    def test_two_hundred_and_one_places(self):
        for kind in ONCE:
            others = [0] * (POINTS_SAID[kind] - 2)
            self.each(SIXTY_SIX, kind, [7, 8] + others, -75, values=[0, 0, 0])
            self.none(SIXTY_SIX, kind, [7, 9] + others, values=[0, 0, 0])
            self.none(SIXTY_SIX, kind, [6, 8] + others, values=[0, 0, 0])

    def test_points_that_count_twice(self):
        for kind, weights in TWICE.items():
            for place, weight in enumerate(weights):
                its = [1] * len(weights)
                its[place] = 7
                self.none(WIDE, kind, row_of(kind, its), values=TWO_VALUES)
                its[place] = 9
                if weight == 2:
                    self.each(WIDE, kind, row_of(kind, its), -75, values=TWO_VALUES)
                else:
                    self.none(WIDE, kind, row_of(kind, its), values=TWO_VALUES)

    def test_two_hundred_and_one_places_of_those(self):
        for kind in (EQUAL, TIMES, CIRCLE, TOUCHES):
            for its in ([6, 9, 0, 1], [1, 6, 9, 0], [9, 0, 1, 6]):
                self.each(SIXTY_SIX, kind, row_of(kind, its), -75, values=[0, 0, 0])
                its[its.index(9)] = 1
                self.none(SIXTY_SIX, kind, row_of(kind, its), values=[0, 0, 0])

    def test_angles(self):
        self.none(WIDE, ANGLES, [8, 0, 1, 1, 0, 1], values=TWO_VALUES)
        for place in (0, 2, 3, 5):
            its = [1, 0, 1, 1, 0, 1]
            its[place] = 8
            self.none(WIDE, ANGLES, its, values=TWO_VALUES)
            its[1] = 2
            self.each(WIDE, ANGLES, its, -75, values=TWO_VALUES)
        self.each(WIDE, ANGLES, [1, 8, 1, 1, 0, 1], -75, values=TWO_VALUES)
        self.each(WIDE, ANGLES, [1, 0, 1, 1, 8, 1], -75, values=TWO_VALUES)

    def test_one_point_twice_counts_twice(self):
        self.each(WIDE, SAME, [8, 8], -75, values=TWO_VALUES)
        self.none(WIDE, SAME, [7, 7], values=TWO_VALUES)
        self.each(WIDE, LINE, [7, 7, 7], -75, values=TWO_VALUES)

    def test_two_hundred_places_of_four_letters(self):
        figure = [[FREE], [FREE], [FIXED, 0, 0], [ALONG, 0, 0, 0], [TURN, 1, 0]]
        # 5 by 5 by 2 by 2 is 100, 5 by 5 by 3 by 3 is 225, 6 by 6 by 2 by 2 is 144.
        self.none(figure, SAME, [3, 4], values=[1, 2, 3, 4])
        self.none(figure, LINE, [3, 4, 2], values=[1, 2, 3, 4])
        self.none(figure, LINE, [3, 4, 0], values=[1, 2, 3, 4])
        self.each(figure, LINE, [3, 4, 1], -75, values=[1, 2, 3, 4])


class WhichOfSeveral(Refusals):
    def test_what_does_not_fit_comes_first(self):
        self.each(CORNERS, 13, [9, 9], -22)
        self.each(CORNERS, SAME, [9, 9, 9], -22)
        self.each(CORNERS, SAME, [], -22)
        self.each(CORNERS, TIMES, [9, 9, 9, 9, 0, 1], -22)
        self.each(CORNERS, TIMES, [0, 0, 0, 9, 1, 1001], -22)
        self.each(WIDE, TIMES, [9, 9, 9, 9, 1001, 1], -22)
        self.each(WIDE, LINE, [9, 9], -22)

    def test_then_no_point(self):
        self.each(WIDE, SAME, [9, 10], -2)
        self.each(WIDE, EQUAL, [9, 9, 9, 10], -2)
        self.each(CORNERS, TIMES, [0, 1, 2, 4, 1, 1], -2)

    def test_all_of_these_come_ahead_of_a_calls_own(self):
        wrong = {"i": 9, "letter": 9, "v": 1001, "values": [1001, 1, 1, 1], "terms": [1, 2, 3]}
        self.each(CORNERS, 13, [0, 1], -22, **wrong)
        self.each(CORNERS, SAME, [0, 4], -2, **wrong)
        self.each(WIDE, SAME, [9, 9], -75, **wrong)
        # Each call's own refusal is another one than that which comes ahead of it.
        self.assertEqual(last(*WIDE, asking(AT, SAME, [9, 9], values=[])), TOO_MUCH)
        self.assertEqual(last(*CORNERS, asking(AT, SAME, [0, 4], values=[1001, 0])), [-2])
        self.assertEqual(last(*CORNERS, asking(AT, SAME, [0, 1, 2], values=[1, 2])), [-22])
        self.assertEqual(last(*CORNERS, asking(REST, SAME, [0], i=2)), [-22])
        self.assertEqual(last(*WIDE, asking(REST, SAME, [9, 9], i=2)), TOO_MUCH)
        self.assertEqual(last(*WIDE, asking(POWER, SAME, [9, 9], letter=2)), TOO_MUCH)
        self.assertEqual(last(*WIDE, asking(GOES, SAME, [9, 9], v=1001)), TOO_MUCH)

    def test_a_figure_stays_as_it_was(self):
        calls = [asking(call, kind, its) for call in CALLS for kind, its in ((13, []), (SAME, [0, 10]), (SAME, [9, 9]))]
        found = told(*WIDE, *calls, [POINTS], [TURN, 0, 0])
        self.assertEqual(found[len(WIDE):], [[-22], [-2], [-75]] * 7 + [[10, 2], [10]])


if __name__ == "__main__":
    unittest.main()
