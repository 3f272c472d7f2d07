"""The refusals of point 1: each at its edges, which of several is answered, and that they change nothing."""

import unittest

from drawnsums.sums import terms
from tests.helper import (ALONG, BEGIN, CENTRE, FIXED, FOOT, FREE, INVERSE, MEET, MIRROR, ON, OWN_HEAVY, PART,
                          POINTS_TOLD, REACH, ROUND, SECOND, TURN, Plain, ask, drawn, shuffled_numbers)

NUMBERS = {FIXED: [0, 0], PART: [1, 2]}
CORNERS = [[FIXED, 0, 0], [FIXED, 7, 0], [FIXED, 0, 5], [FIXED, 4, 9]]
MOST = 2 ** 31 - 1
# From point 0: points 1 to 9, which are 2, 4, 8, 16, 25, 50, 100, 200 and 400 heavy.
FOUR_HUNDRED = [[TURN, 0, 0], [TURN, 1, 1], [TURN, 2, 2], [TURN, 3, 3], [ALONG, 4, 3, 0], [TURN, 5, 5], [TURN, 6, 6],
                [TURN, 7, 7], [TURN, 8, 8]]


def last(*calls):
    return ask([BEGIN], *calls)[-1]


def steps_with_one_point_missing(there, missing):
    for kind, count in POINTS_TOLD.items():
        for place in range(count):
            points = [p % there for p in range(count)]
            points[place] = missing
            yield [kind, *points, *NUMBERS.get(kind, [])]


class NoPoint(unittest.TestCase):
    def test_each_point_of_each_step(self):
        for step in steps_with_one_point_missing(4, 4):
            with self.subTest(step=step):
                self.assertEqual(last(*CORNERS, step), -2)
                self.assertNotEqual(last(*CORNERS, [FIXED, 9, 9], step), -2)

    def test_the_greatest_number_that_is_handed_over(self):
        for step in steps_with_one_point_missing(4, MOST):
            with self.subTest(step=step):
                self.assertEqual(last(*CORNERS, step), -2)

    def test_nothing_is_drawn(self):
        for step in steps_with_one_point_missing(1, 0):
            with self.subTest(step=step):
                self.assertEqual(last(step), -2)

    def test_a_step_does_not_name_its_own_point(self):
        self.assertEqual(ask([BEGIN], [FREE], [TURN, 0, 1], [TURN, 0, 0], [TURN, 0, 1]), [0, 0, -2, 1, 2])


class NumbersThatDoNotFit(unittest.TestCase):
    def test_fixed(self):
        for m in (1000, -1000, 999, 0):
            self.assertEqual(last([FIXED, m, 0]), 0)
            self.assertEqual(last([FIXED, 0, m]), 0)
        for m in (1001, -1001, MOST, -MOST - 1):
            self.assertEqual(last([FIXED, m, 0]), -22)
            self.assertEqual(last([FIXED, 0, m]), -22)

    def test_m_of_part(self):
        for m in (100, -100, 0):
            self.assertEqual(last([FREE], [FREE], [PART, 0, 1, m, 1]), 2)
        for m in (101, -101, MOST, -MOST - 1):
            self.assertEqual(last([FREE], [FREE], [PART, 0, 1, m, 1]), -22)

    def test_n_of_part(self):
        for n in (1, 2, 100):
            self.assertEqual(last([FREE], [FREE], [PART, 0, 1, 1, n]), 2)
        for n in (0, -1, 101, -100, MOST, -MOST - 1):
            self.assertEqual(last([FREE], [FREE], [PART, 0, 1, 1, n]), -22)


class Full(unittest.TestCase):
    def test_the_twelfth_and_the_thirteenth_point(self):
        eleven = CORNERS + [[FIXED, 1, 1]] * 7
        for kind, count in POINTS_TOLD.items():
            step = [kind, *range(count), *NUMBERS.get(kind, [])]
            with self.subTest(step=step):
                self.assertEqual(last(*eleven, step), 11)
                self.assertEqual(last(*eleven, [FIXED, 1, 1], step), -28)
                self.assertEqual(last(*eleven, step, step), -28)

    def test_the_fourth_and_the_fifth_letter(self):
        one, two = [ON, 0, 1], [FREE]
        start = [[FIXED, 0, 0], [FIXED, 1, 1]]
        self.assertEqual(ask([BEGIN], *start, two, two, two, one, [ROUND, 0, 1]), [0, 0, 1, 2, 3, -28, -28, -28])
        self.assertEqual(ask([BEGIN], *start, two, one, two, one, one), [0, 0, 1, 2, 3, -28, 4, -28])
        self.assertEqual(ask([BEGIN], *start, [ROUND, 0, 1], two, two, [ROUND, 0, 1], [ROUND, 0, 1]),
                         [0, 0, 1, 2, 3, -28, 4, -28])
        self.assertEqual(ask([BEGIN], *start, one, one, one, one, one), [0, 0, 1, 2, 3, 4, 5, -28])

    def test_four_letters_are_no_bar_to_steps_without_letters(self):
        self.assertEqual(ask([BEGIN], [FREE], [FREE], [TURN, 0, 1], [FIXED, 0, 0], [MEET, 0, 1, 2, 3]),
                         [0, 0, 1, 2, 3, 4])


def as_heavy_as(heavy, behind):
    """The fewest calls that make point 0 this heavy where it is; the first of them draws point `behind`."""
    ways = {1: []}
    row = [1]
    while heavy not in ways:
        more = []
        for known in row:
            for then, step in ((known + 1, "turn with 0"), (known + 2, "along with 0"), (2 * known, "turn"),
                               (2 * known + 1, "along once 0"), (3 * known, "along")):
                if then not in ways:
                    ways[then] = ways[known] + [step]
                    more.append(then)
        row = more
    calls, point = [], 0
    for step in ways[heavy]:
        calls.append({"turn with 0": [TURN, point, 0], "along with 0": [ALONG, 0, 0, point],
                      "turn": [TURN, point, point], "along once 0": [ALONG, point, point, 0],
                      "along": [ALONG, point, point, point]}[step])
        point = behind + len(calls) - 1
    return calls, point


class Heavy(unittest.TestCase):
    def answered(self, kind, place, heavy):
        """What is answered where the point in that place of the step is so heavy, and all others 1."""
        corners = CORNERS[:POINTS_TOLD[kind]]
        calls, point = as_heavy_as(heavy, len(corners))
        points = list(range(1, len(corners)))
        points.insert(place, point)
        found = ask([BEGIN], *corners, *calls, [kind, *points, *NUMBERS.get(kind, [])])
        self.assertEqual(found[:-1], [0] + list(range(len(corners) + len(calls))))
        return found[-1], len(corners) + len(calls)

    def reckoned(self, kind, place, heavy):
        others = [1] * (POINTS_TOLD[kind] - 1)
        others.insert(place, heavy)
        return REACH[kind](*others) + OWN_HEAVY.get(kind, 0)

    def test_each_point_of_each_step(self):
        for kind, count in POINTS_TOLD.items():
            for place in range(count):
                with self.subTest(kind=kind, place=place):
                    most = max(heavy for heavy in range(1, 400) if self.reckoned(kind, place, heavy) <= 400)
                    answer, number = self.answered(kind, place, most)
                    self.assertEqual(answer, number)
                    self.assertEqual(self.answered(kind, place, most + 1)[0], -75)

    def test_four_hundred_and_one_more(self):
        calls = [[FIXED, 1, 2], *FOUR_HUNDRED]
        self.assertEqual(ask([BEGIN], *calls, [TURN, 9, 0], [TURN, 8, 8]), [0] + list(range(10)) + [-75, 10])

    def test_just_as_heavy_as_told(self):
        figure = drawn([FIXED, 1, 2], [FREE], [ON, 0, 1], [ROUND, 0, 2], [TURN, 2, 3])
        self.assertEqual([point.heavy for point in figure.points], [1, 1, 3, 6, 9])


class Reaches(unittest.TestCase):
    START = [[FIXED, 0, 0], [FIXED, 3, 1], [ON, 0, 1]]

    def test_two_hundred(self):
        ninety_nine = [[ALONG, 2, 2, 2], [ALONG, 3, 3, 3], [ALONG, 4, 2, 2], [ALONG, 5, 5, 5], [ALONG, 6, 6, 6]]
        self.assertEqual(drawn(*self.START, *ninety_nine).points[-1].reach[0], 99)
        self.assertEqual(last(*self.START, *ninety_nine, [ON, 7, 0]), 8)

    def test_two_hundred_and_one(self):
        sixty_six = [[ALONG, 2, 2, 2], [ALONG, 3, 3, 3], [ALONG, 4, 2, 2], [ALONG, 5, 5, 5], [TURN, 6, 6]]
        self.assertEqual(drawn(*self.START, *sixty_six).points[-1].reach[0], 66)
        self.assertEqual(last(*self.START, *sixty_six, [ROUND, 7, 0]), -75)
        self.assertEqual(last(*self.START, *sixty_six, [ON, 7, 0]), 8)

    def test_two_hundred_by_three_letters(self):
        start = [[FREE], [FIXED, 0, 0], [ALONG, 0, 0, 0], [ALONG, 2, 2, 2]]
        self.assertEqual(ask([BEGIN], *start, [ON, 3, 1], [TURN, 4, 1], [TURN, 4, 0]), [0, 0, 1, 2, 3, 4, 5, -75])

    def test_two_letters(self):
        start = [[FREE], [TURN, 0, 0], [ALONG, 1, 1, 1], [TURN, 2, 2]]
        self.assertEqual(ask([BEGIN], *start, [TURN, 3, 0], [TURN, 3, 1]), [0, 0, 1, 2, 3, 4, -75])

    def test_a_letter_that_is_gone_from_the_terms_still_counts(self):
        start = [[FREE], [PART, 0, 0, 1, 1], [MIRROR, 0, 1, 1]]
        self.assertEqual(last(*start), -33)
        self.assertEqual(drawn([FIXED, 0, 0], [ON, 0, 0], [TURN, 1, 1]).points[-1].reach, [2, 0, 0, 0])


class NeverThere(unittest.TestCase):
    def test_a_point_twice(self):
        for step in ([MEET, 0, 0, 1, 2], [MEET, 1, 2, 3, 3], [MEET, 0, 1, 0, 1], [MEET, 0, 1, 1, 0], [FOOT, 0, 1, 1],
                     [MIRROR, 0, 1, 1], [CENTRE, 0, 0, 1], [CENTRE, 0, 1, 0], [CENTRE, 1, 0, 0], [SECOND, 0, 0, 1],
                     [INVERSE, 0, 1, 0]):
            with self.subTest(step=step):
                self.assertEqual(last(*CORNERS, step), -33)
                self.assertEqual(last([FREE], [FIXED, 1, 2], [FREE], [FIXED, 3, 4], step), -33)

    def test_two_points_in_one_place(self):
        twice = [[FIXED, 3, 1], [FREE], [PART, 0, 1, 1, 2], [PART, 1, 0, 2, 4]]
        for step in ([MEET, 2, 3, 0, 1], [FOOT, 0, 2, 3], [MIRROR, 0, 3, 2], [CENTRE, 2, 0, 3], [SECOND, 2, 3, 0],
                     [INVERSE, 3, 0, 2]):
            with self.subTest(step=step):
                self.assertEqual(last(*twice, step), -33)

    def test_lines_that_are_always_parallel(self):
        middles = [[FIXED, 1, 0], [FIXED, 4, 3], [FREE], [PART, 0, 2, 1, 2], [PART, 1, 2, 1, 2]]
        self.assertEqual(last(*middles, [MEET, 0, 1, 3, 4]), -33)
        self.assertEqual(last(*middles, [MEET, 0, 4, 1, 3]), 5)

    def test_three_points_always_on_one_line(self):
        self.assertEqual(last([FIXED, 1, 0], [FREE], [ON, 0, 1], [CENTRE, 0, 1, 2]), -33)
        self.assertEqual(last([FIXED, 1, 0], [FREE], [FREE], [CENTRE, 0, 1, 2]), 3)

    def test_there_in_some_drawings_alone(self):
        self.assertEqual(last([FIXED, 0, 0], [FREE], [MEET, 0, 1, 1, 0]), -33)
        self.assertEqual(last([FIXED, 0, 0], [FIXED, 1, 0], [FREE], [MEET, 0, 2, 1, 2]), 3)
        self.assertEqual(last([FIXED, 0, 0], [FREE], [SECOND, 0, 1, 0]), 2)
        self.assertEqual(last([FIXED, 0, 0], [FIXED, 1, 1], [ON, 0, 1], [INVERSE, 0, 1, 2]), 3)

    def test_these_steps_are_always_there(self):
        for step in ([ON, 0, 0], [PART, 0, 0, 0, 1], [ALONG, 0, 0, 0], [TURN, 0, 0], [ROUND, 0, 0], [SECOND, 0, 1, 0],
                     [FOOT, 0, 0, 1], [MIRROR, 1, 0, 1], [INVERSE, 0, 0, 1]):
            with self.subTest(step=step):
                self.assertEqual(last([FREE], [FIXED, 0, 0], step), 2)


class WhichOfSeveral(unittest.TestCase):
    FULL = CORNERS + [[FIXED, 1, 1]] * 8

    def test_no_point_comes_ahead_of_all(self):
        self.assertEqual(last([FREE], [PART, 0, 1, 101, 0]), -2)
        self.assertEqual(last(*self.FULL, [TURN, 0, 12]), -2)
        self.assertEqual(last(*self.FULL, [PART, 0, 12, 101, 0]), -2)
        self.assertEqual(last([FREE], [FREE], [ON, 0, 2]), -2)
        self.assertEqual(last(*CORNERS, [MEET, 0, 0, 0, 4]), -2)

    def test_then_numbers_that_do_not_fit(self):
        self.assertEqual(last(*self.FULL, [FIXED, 1001, 0]), -22)
        self.assertEqual(last(*self.FULL, [PART, 0, 1, 1, 0]), -22)
        calls = [[FIXED, 1, 2], *FOUR_HUNDRED]
        self.assertEqual(last(*calls, [PART, 9, 9, 101, 1]), -22)
        self.assertEqual(last(*calls, [PART, 9, 9, 100, 1]), -75)

    def test_then_no_room(self):
        calls = [[FIXED, 1, 2], *FOUR_HUNDRED, [FIXED, 0, 0], [FIXED, 0, 0]]
        self.assertEqual(last(*calls, [TURN, 9, 9]), -28)
        self.assertEqual(last(*self.FULL, [MEET, 0, 0, 0, 0]), -28)
        wide = [[FREE], [FREE], [ALONG, 0, 1, 0]]
        self.assertEqual(last(*wide, [ON, 2, 2]), -28)
        self.assertEqual(last(*wide, [TURN, 2, 2]), -75)

    def test_then_too_much(self):
        calls = [[FIXED, 1, 2], *FOUR_HUNDRED]
        self.assertEqual(last(*calls, [MEET, 9, 9, 9, 9]), -75)
        self.assertEqual(last(*calls, [MEET, 7, 7, 7, 7]), -33)
        fourth = [[FREE], [TURN, 0, 0], [TURN, 1, 1]]
        self.assertEqual(last(*fourth, [MEET, 2, 2, 2, 2]), -75)
        self.assertEqual(last(*fourth, [MEET, 2, 2, 2, 0]), -33)


class NothingChanges(unittest.TestCase):
    def state(self, figure):
        sums = [(p.kind, p.told, terms(p.x), terms(p.y), terms(p.w), p.reach, p.heavy) for p in figure.points]
        return sums, figure.letters, figure.begun

    def test_what_comes_behind_is_as_if_it_had_not_been_asked(self):
        start = [[FREE], [FIXED, 1, 1]]
        behind = [[ON, 0, 1], [CENTRE, 0, 1, 2], [ROUND, 0, 1], [FREE], [CENTRE, 0, 1, 4], [TURN, 0, 3]]
        as_it_is = ask([BEGIN], *start, *behind)
        refused = {-2: [ON, 0, 2], -22: [FIXED, 1001, 1], -33: [MEET, 0, 0, 0, 0]}
        for number, call in refused.items():
            with self.subTest(call=call):
                found = ask([BEGIN], *start, call, *behind)
                self.assertEqual(found, as_it_is[:3] + [number] + as_it_is[3:])
                self.assertEqual(self.state(drawn(*start, call, *behind)), self.state(drawn(*start, *behind)))

    def test_refused_for_letters_or_points(self):
        start = [[FREE], [FIXED, 1, 1], [ON, 0, 1]]
        self.assertEqual(ask([BEGIN], *start, [FREE], [ON, 0, 1], [ON, 0, 1]), [0, 0, 1, 2, -28, 3, -28])
        self.assertEqual(self.state(drawn(*start, [FREE], [ON, 0, 1])), self.state(drawn(*start, [ON, 0, 1])))
        full = [[FIXED, 1, 1]] * 12
        self.assertEqual(self.state(drawn(*full, [FREE])), self.state(drawn(*full)))

    def test_refused_as_too_much(self):
        start = [[FREE], [TURN, 0, 0], [TURN, 1, 1], [TURN, 2, 2]]
        self.assertEqual(last(*start, [ON, 3, 3]), -75)
        self.assertEqual(self.state(drawn(*start, [ON, 3, 3], [ON, 0, 1])), self.state(drawn(*start, [ON, 0, 1])))


class ManyFigures(unittest.TestCase):
    """Figures put together by a fixed rule, against the document's words over plain whole numbers."""

    def figure(self, seed):
        row = shuffled_numbers(seed)
        calls = []
        for number in range(16):
            kind = 1 + next(row) % 13
            if number < 3:
                kind = (FIXED, FREE, ON, FIXED)[next(row) % 4] if number else FIXED
            count = POINTS_TOLD[kind]
            call = [kind] + [next(row) % (min(number, 5) + 1) for place in range(count)]
            if kind == FIXED:
                call += [next(row) % 2004 - 1002, next(row) % 2004 - 1002]
            if kind == PART:
                call += [next(row) % 9 - 4, next(row) % 6]
            calls.append(call)
        return calls

    def test_answers(self):
        seen = {}
        for seed in range(150):
            calls = self.figure(seed)
            plain = Plain()
            told = [plain.answer(call) for call in calls]
            with self.subTest(seed=seed):
                self.assertEqual(ask([BEGIN], *calls), [0] + told)
            for number in told:
                seen[min(number, 0)] = seen.get(min(number, 0), 0) + 1
        self.assertEqual(sorted(seen), [-75, -33, -28, -22, -2, 0])


if __name__ == "__main__":
    unittest.main()
