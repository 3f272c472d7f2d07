"""at, is and goes: what a sum comes to, whether these are its terms, and where it goes."""

import itertools
import unittest

from tests.helper import (ALIKE, ALONG, ANGLES, AT, CENTRE, CIRCLE, EQUAL, FIXED, FREE, GOES, IS, LEFT, LINE,
                          MEET, MIDDLE, MOST, ON, PARALLEL, PART, POINTS_SAID, REST, RIGHT, ROUND, SAME,
                          SUMS_LEFT, TIMES, TOUCHES, TURN, Whole, asking, last, told)

CEVIANS = [[FIXED, 1, 0], [FIXED, 3, -1], [FIXED, 2, 2], [FREE], [MEET, 3, 0, 1, 2], [MEET, 3, 1, 2, 0],
           [MEET, 3, 2, 0, 1]]
FOUR_LETTERS = [[FREE], [FIXED, 1, 2], [ON, 0, 1], [ROUND, 1, 0]]
FAR_OUT = [[FIXED, 0, 0], [FIXED, 1000, 0]] + [[PART, 0, p, 100, 1] for p in range(1, 7)]
LEAST = -2 ** 31
# Point 5 has every power of letter 0 up to 24, point 11 letters 1, 2 and 3 in each way there is.
DENSE = [[FIXED, -2, 9], [FIXED, 8, -5], [ROUND, 0, 1], [TURN, 2, 2], [ALONG, 3, 3, 3], [TURN, 4, 4], [FIXED, 2, 6],
         [ON, 6, 1], [FIXED, 9, -7], [ON, 7, 8], [FIXED, -9, 6], [ON, 9, 10]]
DENSE_SAYING = (PARALLEL, [5, 8, 11, 0])


def plain_its(kind):
    return [3, 4, 5, 6, 0, 1][:POINTS_SAID[kind]] + ([3, 2] if kind == TIMES else [])


class At(unittest.TestCase):
    def at(self, figure, kind, its, values, i=0):
        return last(*figure, asking(AT, kind, its, i=i, values=values))

    def test_each_saying_by_the_words(self):
        whole = Whole()
        for step in CEVIANS:
            whole.answer(step)
        for kind, values in itertools.product(LEFT, ([0, 0], [1, 2], [-3, 5], [7, -4])):
            its = plain_its(kind)
            left = whole.left(kind, its, whole.at(values))
            for i in range(SUMS_LEFT[kind]):
                with self.subTest(kind=kind, values=values, i=i):
                    self.assertEqual(self.at(CEVIANS, kind, its, values, i), [0, left[i]])

    def test_below_nought(self):
        self.assertEqual(self.at([[FREE], [FIXED, 0, 0]], SAME, [0, 1], [-7, 5]), [0, -7])
        self.assertEqual(self.at([[FREE], [FIXED, 0, 0]], SAME, [0, 1], [-7, 5], i=1), [0, 5])
        self.assertEqual(self.at([[FREE], [FIXED, 0, 0]], SAME, [1, 0], [7, 5]), [0, -7])
        self.assertEqual(self.at([[FREE], [FIXED, 0, 0]], RIGHT, [0, 1, 0, 1], [-7, -5]), [0, 74])

    def test_nothing_left(self):
        self.assertEqual(self.at([[FREE]], SAME, [0, 0], [3, 4]), [0, 0])

    def test_nought_there_alone(self):
        self.assertEqual(self.at([[FREE], [FIXED, 6, 7]], SAME, [0, 1], [6, 9]), [0, 0])
        self.assertEqual(self.at([[FREE], [FIXED, 6, 7]], SAME, [0, 1], [6, 9], i=1), [0, 2])

    def test_each_letter_has_its_own_value(self):
        figure = [[FREE], [FREE], [FIXED, 0, 0]]
        self.assertEqual(self.at(figure, LINE, [2, 0, 1], [2, 3, 5, 7]), [0, 2 * 7 - 3 * 5])
        self.assertEqual(self.at(figure, SAME, [1, 2], [2, 3, 5, 7]), [0, 5])
        self.assertEqual(self.at(figure, SAME, [1, 2], [2, 3, 5, 7], i=1), [0, 7])

    def test_values_too_few_or_too_many(self):
        for figure, letters in (([[FIXED, 1, 2]], 0), ([[FIXED, 1, 2], [ON, 0, 0]], 1), ([[FREE]], 2),
                                ([[FREE], [ON, 0, 0]], 3), ([[FREE], [FREE]], 4)):
            for count in range(5):
                with self.subTest(letters=letters, count=count):
                    found = self.at(figure, SAME, [0, 0], [1] * count)
                    self.assertEqual(found, [0, 0] if count == letters else [-22])

    def test_a_figure_without_letters_and_no_values(self):
        figure = [[FIXED, 1, 2], [FIXED, -4, 8]]
        self.assertEqual(self.at(figure, SAME, [0, 1], []), [0, 5])
        self.assertEqual(self.at(figure, SAME, [0, 1], [], i=1), [0, -6])
        self.assertEqual(self.at(figure, SAME, [0, 1], [0]), [-22])

    def test_values_above_a_thousand(self):
        figure = [[FREE], [ON, 0, 0], [FIXED, 0, 0]]
        for place in range(3):
            for v in (1000, -1000, 999, 0):
                values = [1, 2, 3]
                values[place] = v
                self.assertEqual(self.at(figure, SAME, [0, 2], values), [0, values[0]])
            for v in (1001, -1001, MOST, LEAST):
                values = [1, 2, 3]
                values[place] = v
                self.assertEqual(self.at(figure, SAME, [0, 2], values), [-22])

    def test_a_value_is_asked_of_letters_in_no_term_too(self):
        self.assertEqual(self.at([[FIXED, 1, 1], [ON, 0, 0]], SAME, [0, 1], [1001]), [-22])
        self.assertEqual(self.at([[FIXED, 1, 1], [ON, 0, 0]], SAME, [0, 1], [1000]), [0, 0])

    def test_what_it_comes_to_is_too_great(self):
        figure = FAR_OUT + [[FIXED, 1, 0], [ALONG, 0, 8, 7]]
        self.assertEqual(self.at(figure, SAME, [7, 0], []), [0, 10 ** 15])
        self.assertEqual(self.at(figure, SAME, [0, 7], []), [0, -10 ** 15])
        self.assertEqual(self.at(figure, SAME, [9, 0], []), [-75])
        self.assertEqual(self.at(figure, SAME, [0, 9], []), [-75])
        self.assertEqual(self.at(figure, SAME, [9, 8], []), [0, 10 ** 15])

    def test_too_great_by_its_values(self):
        # Point 8 is s times 10 ** 13 off point 0, which lies between points 9 and 10.
        figure = [[FIXED, 0, 0], [FIXED, 10, 0]] + [[PART, 0, p, 100, 1] for p in range(1, 7)] + [[ON, 0, 7]]
        self.assertEqual(last(*figure, asking(REST, SAME, [8, 0])), [1, 10 ** 13, 1, 0, 0, 0])
        self.assertEqual(self.at(figure, SAME, [8, 0], [100]), [0, 10 ** 15])
        self.assertEqual(self.at(figure, SAME, [8, 0], [-100]), [0, -10 ** 15])
        self.assertEqual(self.at(figure, SAME, [8, 0], [101]), [-75])
        self.assertEqual(self.at(figure, SAME, [8, 0], [-101]), [-75])
        more = figure + [[FIXED, -1, 0], [FIXED, 1, 0]]
        self.assertEqual(self.at(more, SAME, [8, 9], [100]), [-75])
        self.assertEqual(self.at(more, SAME, [8, 10], [100]), [0, 10 ** 15 - 1])
        self.assertEqual(self.at(more, SAME, [8, 10], [-100]), [-75])

    def test_great_terms_that_come_to_little(self):
        figure = FAR_OUT + [[PART, 0, 7, 100, 1], [ON, 8, 0]]
        self.assertEqual(last(*figure, asking(REST, SAME, [9, 0])), [-75])
        self.assertEqual(self.at(figure, SAME, [9, 0], [1]), [0, 0])
        self.assertEqual(self.at(figure, SAME, [9, 0], [2]), [-75])

    def test_no_such_sum(self):
        for kind in LEFT:
            for i in (SUMS_LEFT[kind], MOST):
                self.assertEqual(self.at(CEVIANS, kind, plain_its(kind), [1, 1], i), [-2])

    def test_which_of_several(self):
        self.assertEqual(self.at([[FREE]], SAME, [0, 0], [1001], i=2), [-2])
        self.assertEqual(self.at([[FREE]], SAME, [0, 0], [1001], i=1), [-22])
        figure = FAR_OUT + [[PART, 0, 7, 100, 1]]
        self.assertEqual(self.at(figure, SAME, [8, 0], [0]), [-22])
        self.assertEqual(self.at(figure, SAME, [8, 0], []), [-75])
        self.assertEqual(self.at(figure, SAME, [8, 0], [], i=2), [-2])


class Is(unittest.TestCase):
    START = [[FIXED, 0, 0], [FIXED, 2, 0], [FREE], [CENTRE, 0, 1, 2]]

    def taken(self, figure, kind, its, terms, i=0):
        return last(*figure, asking(IS, kind, its, i=i, terms=terms))

    def rest(self, figure, kind, its, i=0):
        return last(*figure, asking(REST, kind, its, i=i))[1:]

    def test_all_terms_in_order(self):
        for kind in LEFT:
            for i in range(SUMS_LEFT[kind]):
                its = plain_its(kind)
                terms = self.rest(CEVIANS, kind, its, i)
                if len(terms) <= 1000 and all(LEAST <= number <= MOST for number in terms):
                    with self.subTest(kind=kind, i=i):
                        self.assertEqual(self.taken(CEVIANS, kind, its, terms, i), [1])

    def test_by_hand(self):
        self.assertEqual(self.taken(self.START, LINE, [0, 1, 2], [2, 0, 1, 0, 0]), [1])
        self.assertEqual(self.taken(self.START, RIGHT, [0, 1, 1, 2], [2, 1, 0, 0, 0, -4, 0, 0, 0, 0]), [1])

    def test_in_another_order(self):
        self.assertEqual(self.taken(self.START, RIGHT, [0, 1, 1, 2], [-4, 0, 0, 0, 0, 2, 1, 0, 0, 0]), [0])

    def test_one_too_many_or_too_few(self):
        terms = self.rest(self.START, EQUAL, [0, 2, 0, 3])
        count = len(terms) // 5
        self.assertGreater(count, 3)
        self.assertEqual(self.taken(self.START, EQUAL, [0, 2, 0, 3], terms), [1])
        for at in range(0, len(terms), 5):
            self.assertEqual(self.taken(self.START, EQUAL, [0, 2, 0, 3], terms[:at] + terms[at + 5:]), [0])
        for more in ([1, 0, 0, 0, 0], [0, 0, 0, 0, 0], [1, 9, 9, 9, 9], terms[:5], terms[-5:]):
            self.assertEqual(self.taken(self.START, EQUAL, [0, 2, 0, 3], terms + more), [0])
            self.assertEqual(self.taken(self.START, EQUAL, [0, 2, 0, 3], more + terms), [0])

    def test_any_number_that_differs(self):
        terms = self.rest(self.START, EQUAL, [0, 2, 0, 3])
        for at in range(len(terms)):
            for off in (1, -1):
                other = list(terms)
                other[at] += off
                self.assertEqual(self.taken(self.START, EQUAL, [0, 2, 0, 3], other), [0])

    def test_a_term_told_as_two(self):
        self.assertEqual(self.taken(self.START, LINE, [0, 1, 2], [1, 0, 1, 0, 0, 1, 0, 1, 0, 0]), [0])

    def test_no_whole_number_of_terms(self):
        terms = [2, 0, 1, 0, 0]
        for count in range(5):
            self.assertEqual(self.taken(self.START, LINE, [0, 1, 2], terms[:count]), [0])
            self.assertEqual(self.taken(self.START, LINE, [0, 0, 2], [0] * (count + 1)), [0])
        for more in ([0], [0, 0], [0, 0, 0], [0, 0, 0, 0], [2], [2, 0, 1, 0]):
            self.assertEqual(self.taken(self.START, LINE, [0, 1, 2], terms + more), [0])

    def test_nothing_left(self):
        self.assertEqual(self.taken(self.START, LINE, [0, 0, 2], []), [1])
        self.assertEqual(self.taken(self.START, LINE, [0, 0, 2], [0, 0, 0, 0, 0]), [0])
        self.assertEqual(self.taken(self.START, LINE, [0, 0, 2], [1, 0, 0, 0, 0]), [0])
        self.assertEqual(self.taken(self.START, LINE, [0, 1, 2], []), [0])

    def test_two_sums_of_which_one_is_nought(self):
        figure = [[FIXED, 0, 0], [FIXED, 1, 0], [ON, 0, 1]]
        terms = [1, 1, 0, 0, 0, -1, 0, 0, 0, 0]
        self.assertEqual(self.taken(figure, SAME, [2, 1], terms, 0), [1])
        self.assertEqual(self.taken(figure, SAME, [2, 1], terms, 1), [0])
        self.assertEqual(self.taken(figure, SAME, [2, 1], [], 0), [0])
        self.assertEqual(self.taken(figure, SAME, [2, 1], [], 1), [1])

    def test_terms_that_cannot_be_told(self):
        figure = FAR_OUT + [[PART, 0, 7, 100, 1]]
        self.assertEqual(self.taken(figure, SAME, [8, 0], [MOST, 0, 0, 0, 0]), [0])
        self.assertEqual(self.taken(figure, SAME, [8, 0], []), [0])
        self.assertEqual(self.taken(figure, SAME, [8, 0], [], 1), [1])

    def test_no_such_sum(self):
        for kind in LEFT:
            for i in (SUMS_LEFT[kind], MOST):
                self.assertEqual(self.taken(CEVIANS, kind, plain_its(kind), [], i), [-2])
        self.assertEqual(self.taken(self.START, SAME, [0, 0], [], 2), [-2])

    def test_the_greatest_numbers_that_are_handed_over(self):
        self.assertEqual(self.taken(self.START, LINE, [0, 1, 2], [MOST, LEAST, MOST, LEAST, MOST]), [0])
        self.assertEqual(self.taken(self.START, LINE, [0, 1, 2], [LEAST] * 1000), [0])

    def test_a_thousand_numbers(self):
        self.assertEqual(self.taken(self.START, LINE, [0, 1, 2], [2, 0, 1, 0, 0] * 200), [0])
        found = told(*self.START, asking(IS, LINE, [0, 1, 2], terms=[1] * 1000), [FIXED, 5, 5])
        self.assertEqual(found[-2:], [[0], [4]])

    def test_two_hundred_terms_that_are_taken(self):
        """A grid of 200 places of which each has a term."""
        terms = self.rest(DENSE, *DENSE_SAYING)
        self.assertEqual(len(terms), 1000)
        self.assertLessEqual(max(abs(number) for number in terms), MOST)
        self.assertEqual(self.taken(DENSE, *DENSE_SAYING, terms), [1])
        self.assertEqual(self.taken(DENSE, *DENSE_SAYING, terms[:-1] + [1]), [0])
        self.assertEqual(self.taken(DENSE, *DENSE_SAYING, terms[:-5]), [0])


class Goes(unittest.TestCase):
    def goes(self, figure, kind, its, letter, v, i=0):
        return last(*figure, asking(GOES, kind, its, i=i, letter=letter, v=v))

    def test_where_it_goes_and_where_it_does_not(self):
        figure = [[FIXED, 1, 2], [FREE], [ON, 0, 1]]
        for i in range(2):
            for v, first, other in ((0, 1, 0), (1, 0, 1), (2, 0, 0), (-1, 0, 0)):
                with self.subTest(i=i, v=v):
                    self.assertEqual(self.goes(figure, SAME, [2, 0], 2, v, i), [first])
                    self.assertEqual(self.goes(figure, SAME, [2, 1], 2, v, i), [other])

    def test_one_sum_of_two(self):
        figure = [[FREE], [FIXED, 6, -7]]
        self.assertEqual(self.goes(figure, SAME, [0, 1], 0, 6, 0), [1])
        self.assertEqual(self.goes(figure, SAME, [0, 1], 0, 6, 1), [0])
        self.assertEqual(self.goes(figure, SAME, [0, 1], 1, -7, 0), [0])
        self.assertEqual(self.goes(figure, SAME, [0, 1], 1, -7, 1), [1])
        self.assertEqual(self.goes(figure, SAME, [0, 1], 1, 7, 1), [0])

    def test_a_power_above_one(self):
        # Round the circle of 5: x is 5 s s - 5 by s s + 1.
        figure = [[FIXED, 0, 0], [FIXED, 5, 0], [ROUND, 0, 1], [FIXED, -3, 1]]
        self.assertEqual(last(*figure, asking(REST, SAME, [2, 0])), [2, 5, 2, 0, 0, 0, -5, 0, 0, 0, 0])
        found = [self.goes(figure, SAME, [2, 0], 0, v) for v in (-2, -1, 0, 1, 2)]
        self.assertEqual(found, [[0], [1], [0], [1], [0]])

    def test_nought_only_where_the_other_letters_fit_too(self):
        figure = [[FREE], [FIXED, 0, 0], [FREE]]
        # What is left is s v - t u: it goes nowhere by one letter alone.
        for letter, v in itertools.product(range(4), (-1, 0, 1)):
            self.assertEqual(self.goes(figure, LINE, [1, 0, 2], letter, v), [0])

    def test_terms_that_go_against_each_other(self):
        figure = [[FIXED, 0, 0], [FIXED, 2, 0], [FREE]]
        # 8 t - 8 s t: it goes where s is 1, and where t is 0.
        self.assertEqual(last(*figure, asking(REST, ANGLES, [1, 0, 2, 2, 1, 0])),
                         [2, -8, 1, 1, 0, 0, 8, 0, 1, 0, 0])
        self.assertEqual([self.goes(figure, ANGLES, [1, 0, 2, 2, 1, 0], 0, v) for v in (0, 1, 2)], [[0], [1], [0]])
        self.assertEqual([self.goes(figure, ANGLES, [1, 0, 2, 2, 1, 0], 1, v) for v in (0, 1, 2)], [[1], [0], [0]])

    def test_a_sum_that_is_nought(self):
        for letter, v in itertools.product(range(4), (-1000, 0, 3, 1000)):
            self.assertEqual(self.goes(FOUR_LETTERS, LINE, [0, 1, 2], letter, v), [1])

    def test_a_letter_in_no_term(self):
        for v in (-1, 0, 1):
            self.assertEqual(self.goes(FOUR_LETTERS, SAME, [0, 1], 2, v), [0])
            self.assertEqual(self.goes([[FIXED, 1, 1], [ON, 0, 0], [FIXED, 1, 2]], SAME, [1, 2], 0, v), [1])
            self.assertEqual(self.goes([[FIXED, 1, 1], [ON, 0, 0], [FIXED, 1, 2]], SAME, [1, 2], 0, v, 1), [0])

    def test_a_thousand_and_one_more(self):
        figure = [[FREE], [FIXED, 1000, -1000]]
        self.assertEqual(self.goes(figure, SAME, [0, 1], 0, 1000), [1])
        self.assertEqual(self.goes(figure, SAME, [0, 1], 0, -1000), [0])
        self.assertEqual(self.goes(figure, SAME, [0, 1], 1, -1000, 1), [1])
        for v in (1001, -1001, MOST, LEAST):
            self.assertEqual(self.goes(figure, SAME, [0, 1], 0, v), [-22])
            self.assertEqual(self.goes(figure, SAME, [0, 0], 0, v), [-22])

    def test_no_such_sum_or_letter(self):
        for kind in LEFT:
            for i in (SUMS_LEFT[kind], MOST):
                self.assertEqual(self.goes(CEVIANS, kind, plain_its(kind), 0, 1, i), [-2])
        for letter in (2, 3, 4, MOST):
            self.assertEqual(self.goes(CEVIANS, SAME, [0, 1], letter, 1), [-2])
        self.assertEqual(self.goes([[FIXED, 1, 2]], SAME, [0, 0], 0, 1), [-2])
        self.assertEqual(self.goes(FOUR_LETTERS, SAME, [0, 0], 4, 1), [-2])

    def test_which_of_several(self):
        self.assertEqual(self.goes(CEVIANS, SAME, [0, 1], 0, 1001, 2), [-2])
        self.assertEqual(self.goes(CEVIANS, SAME, [0, 1], 2, 1001), [-2])
        self.assertEqual(self.goes(CEVIANS, SAME, [0, 1], 1, 1001, 1), [-22])

    def test_where_all_sums_go_it_is_so(self):
        figure = [[FIXED, 1, 2], [FIXED, 5, 4], [ON, 0, 1], [FREE]]
        whole = Whole()
        for step in figure:
            whole.answer(step)
        for kind, its in ((SAME, [2, 1]), (MIDDLE, [0, 2, 1]), (EQUAL, [0, 2, 2, 1]), (LINE, [2, 0, 3]),
                          (PARALLEL, [0, 2, 0, 3]), (TOUCHES, [0, 3, 2, 1]), (CIRCLE, [0, 1, 2, 3]),
                          (ALIKE, [0, 1, 3, 0, 2, 3])):
            for v in range(-2, 4):
                found = [self.goes(figure, kind, its, 0, v, i) for i in range(SUMS_LEFT[kind])]
                drawings = [whole.left(kind, its, whole.at((v, s, t))) for s in range(-4, 5) for t in range(-4, 5)]
                for i, answer in enumerate(found):
                    with self.subTest(kind=kind, v=v, i=i):
                        self.assertEqual(answer, [int(not any(left[i] for left in drawings))])

    def test_great_numbers(self):
        figure = FAR_OUT + [[PART, 0, 7, 100, 1], [ON, 8, 0]]
        self.assertEqual(self.goes(figure, SAME, [9, 0], 0, 1), [1])
        self.assertEqual(self.goes(figure, SAME, [9, 0], 0, 1000), [0])


if __name__ == "__main__":
    unittest.main()
