"""All calls together: long lists put together by a fixed rule, against the document's words; what changes nothing."""

import unittest

from drawnsums.figure import answers
from tests.helper import (ALIKE, AT, BEGIN, COMMON, DEGREE, FIXED, FREE, GOES, HOLDS, IS, LINE, MEET, MIDDLE, MOST,
                          NUMBERS, ON, OUT, PARALLEL, PART, POINTS, POINTS_SAID, POINTS_TOLD, POWER, REST, RESTS,
                          ROUND, SAME, STEP, TIMES, TURN, Whole, as_sum, asking, flat, shuffled_numbers, split, told)

FIGURE = [[FREE], [FIXED, 1, 2], [ON, 0, 1], [TURN, 0, 2], [ROUND, 1, 0], [PART, 0, 4, -2, 3]]
LOOKS = [[POINTS], [STEP, 5], [NUMBERS, 5, 0], [NUMBERS, 5, 2], [DEGREE, 5, 3], [COMMON, 5],
         asking(HOLDS, LINE, [0, 1, 2]), asking(RESTS, SAME, [2, 4]), asking(REST, SAME, [2, 4], i=1),
         asking(POWER, SAME, [3, 4], letter=3), asking(AT, SAME, [2, 4], values=[1, 2, 3, 4]),
         asking(IS, LINE, [0, 1, 2], terms=[]), asking(IS, LINE, [0, 1, 3], terms=[1, 0, 0, 0, 0]),
         asking(GOES, SAME, [2, 0], letter=2, v=0)]
REFUSED = [[STEP, 6], [NUMBERS, 6, 0], [NUMBERS, 0, 3], [DEGREE, 6, 0], [DEGREE, 0, 4], [COMMON, 6],
           asking(HOLDS, 13, []), asking(RESTS, LINE, [0, 1, 6]), asking(REST, SAME, [2, 4], i=2),
           asking(HOLDS, ALIKE, [5, 5, 5, 5, 5, 5]), asking(POWER, SAME, [3, 4], letter=4),
           asking(AT, SAME, [2, 4], values=[1, 2, 3]), asking(IS, LINE, [0, 1, 2], i=1),
           asking(GOES, SAME, [2, 0], letter=2, v=1001), asking(GOES, SAME, [2, 0], letter=4)]
BEHIND = [[OUT], [FIXED, 3, 4], [NUMBERS, 5, 0], [MEET, 0, 1, 3, 5], [NUMBERS, 6, 2], [OUT], [OUT], [OUT],
          [ROUND, 0, 1], [NUMBERS, 4, 2], [POINTS], asking(REST, SAME, [4, 2])]


class ChangesNothing(unittest.TestCase):
    def test_looking(self):
        plain = told(*FIGURE, *BEHIND)
        for look in LOOKS:
            with self.subTest(look=look):
                found = told(*FIGURE, look, look, *BEHIND)
                self.assertGreaterEqual(found[len(FIGURE)][0], 0)
                self.assertEqual(found[len(FIGURE)], found[len(FIGURE) + 1])
                self.assertEqual(found[:len(FIGURE)] + found[len(FIGURE) + 2:], plain)

    def test_refusals(self):
        plain = told(*FIGURE, *BEHIND)
        for refused in REFUSED:
            with self.subTest(refused=refused):
                found = told(*FIGURE, refused, *BEHIND)
                self.assertEqual(len(found[len(FIGURE)]), 1)
                self.assertLess(found[len(FIGURE)][0], 0)
                self.assertEqual(found[:len(FIGURE)] + found[len(FIGURE) + 1:], plain)

    def test_a_refused_out(self):
        self.assertEqual(told([OUT], [FREE], [NUMBERS, 0, 1], [POINTS]), [[-2], [0], [1, 1, 0, 1, 0, 0], [1, 2]])

    def test_what_is_handed_in_stays_as_it_was(self):
        calls = flat([[BEGIN]] + FIGURE + LOOKS + REFUSED + BEHIND)
        before = list(calls)
        first = answers(calls)
        self.assertEqual(calls, before)
        self.assertEqual(answers(calls), first)
        self.assertEqual({type(number) for number in first}, {int})

    def test_nothing_is_kept(self):
        answers(flat([[BEGIN]] + FIGURE))
        for look in LOOKS + [[OUT]]:
            self.assertEqual(answers(look), [1, -61])

    def test_what_was_answered_is_not_the_figures_own(self):
        calls = flat([[BEGIN], [FIXED, 5, 6], [STEP, 0], [STEP, 0]])
        given = answers(calls)
        given.append(1)
        self.assertEqual(answers(calls), [1, 0, 1, 0, 3, 0, 5, 6, 3, 0, 5, 6])


class LongLists(unittest.TestCase):
    def test_sixty_calls(self):
        calls = [[BEGIN]] + FIGURE + (LOOKS + REFUSED) * 2
        calls = calls[:59] + [[OUT]]
        self.assertEqual(len(calls), 60)
        found = split(answers(flat(calls)))
        self.assertEqual(found, Whole().told(calls))

    def test_sixty_calls_with_a_thousand_numbers_each(self):
        terms = [1, 0, 0, 0, 0] * 200
        calls = [[BEGIN], *FIGURE[:3]] + [asking(IS, LINE, [0, 1, 2], terms=terms)] * 25
        calls += [asking(IS, LINE, [0, 1, 2], terms=[])] * 31
        self.assertEqual(len(calls), 60)
        self.assertLessEqual(len(flat(calls)), 30000)
        self.assertEqual(split(answers(flat(calls))), [[0], [0], [1], [2]] + [[0]] * 25 + [[1]] * 31)

    def test_a_row_may_look_like_calls(self):
        calls = [[BEGIN], [FREE], asking(IS, SAME, [0, 0], terms=[BEGIN, OUT, OUT]), [POINTS]]
        self.assertEqual(split(answers(flat(calls))), [[0], [0], [0], [1, 2]])


class Maker:
    """Calls by a fixed rule: mostly such as are answered, some that are refused."""

    def __init__(self, seed):
        self.row = shuffled_numbers(seed)
        self.whole = Whole()

    def below(self, count):
        return next(self.row) % count

    def one_of(self, choices):
        return choices[self.below(len(choices))]

    def point(self):
        count = len(self.whole.steps)
        return self.below(count + 1) if self.below(12) == 0 or count == 0 else self.below(count)

    def number(self, most):
        if self.below(12) == 0:
            return self.one_of([most, -most, most + 1, -most - 1, 0, MOST, -MOST - 1])
        return self.below(9) - 4

    def step(self):
        kind = 1 + self.below(13)
        if self.below(3) == 0 or len(self.whole.steps) < 3:
            kind = self.one_of([FIXED, FREE, ON, ROUND, FIXED])
        call = [kind] + [self.point() for place in range(POINTS_TOLD[kind])]
        if kind == FIXED:
            call += [self.number(1000), self.number(1000)]
        if kind == PART:
            call += [self.number(100), self.number(100) if self.below(3) == 0 else 1 + self.below(7)]
        return call

    def look(self):
        number = self.one_of([POINTS, STEP, NUMBERS, NUMBERS, DEGREE, COMMON])
        told = {POINTS: [], STEP: [self.point()], NUMBERS: [self.point(), self.below(4)],
                DEGREE: [self.point(), self.below(5)], COMMON: [self.point()]}
        return [number] + told[number]

    def its(self, kind):
        row = [self.point() for place in range(POINTS_SAID.get(kind, 3))]
        if kind == TIMES:
            row += [self.one_of([1, 2, 3, 1000]), self.one_of([1, 2, 3, 1000, 0, 1001])]
        if self.below(25) == 0:
            row = row[:-1]
        return row

    def terms(self, kind, i, its):
        """What is left, as it is or a little off."""
        if self.whole.refusal(kind, its):
            return [1, 0, 0, 0, 0]
        sums = [as_sum(f) for f in self.whole.left(kind, its, self.whole.sums())]
        terms = flat(sums[i % len(sums)].rows())[:1000]
        off = self.below(5)
        if terms and off == 0:
            terms[self.below(len(terms))] += 1
        if terms and off == 1:
            terms = terms[:-self.one_of([1, 4, 5])]
        if off == 2:
            terms = terms[5:] + terms[:5]
        return [max(-MOST - 1, min(MOST, number)) for number in terms]

    def ask(self):
        kind = self.below(14 if self.below(12) == 0 else 13)
        if self.below(3) == 0:
            kind = self.one_of([SAME, LINE, MIDDLE, PARALLEL])
        its, i = self.its(kind), self.below(3) if self.below(6) == 0 else self.below(2)
        letters = self.whole.letters
        more = {"i": i, "letter": self.below(letters + 1), "v": self.number(1000),
                "values": [self.number(1000) for place in range(letters)]}
        if self.below(12) == 0:
            more["values"] = [1] * self.below(5)
        call = self.one_of([HOLDS, RESTS, REST, POWER, AT, IS, GOES])
        if call == IS:
            more["terms"] = self.terms(kind, i, its)
        return asking(call, kind, its, **more)

    def next_call(self):
        if len(self.whole.steps) < 5:
            return self.step()
        return self.one_of([self.step] * 2 + [self.look] + [self.ask] * 4 + [lambda: [OUT]])()

    def made(self, count):
        """So many calls, and what is answered of each by the document's words."""
        calls, found = [[BEGIN]], [self.whole.call([BEGIN])]
        while len(calls) < count:
            calls.append(self.next_call())
            found.append(self.whole.call(calls[-1]))
        return calls, found


class ByTheWords(unittest.TestCase):
    def test_answers(self):
        seen = {}
        for seed in range(120):
            calls, found = Maker(seed).made(60)
            with self.subTest(seed=seed):
                self.assertEqual(split(answers(flat(calls))), found)
            for call, answer in zip(calls, found):
                seen.setdefault(call[0], set()).add(min(answer[0], 0))
        self.assertEqual(sorted(seen), list(range(27)))
        for number, refusals in ((NUMBERS, {-2, -22}), (DEGREE, {-2}), (HOLDS, {-22, -2, -75}), (RESTS, {-22, -2, -75}),
                                 (REST, {-22, -2, -75}), (POWER, {-22, -2, -75}), (AT, {-22, -2, -75}),
                                 (IS, {-22, -2, -75}), (GOES, {-22, -2, -75})):
            self.assertEqual(seen[number] - {-75} | refusals, refusals | {0})
            self.assertLessEqual(refusals, seen[number])

    def test_both_verdicts_come_up(self):
        verdicts = {HOLDS: set(), IS: set(), GOES: set()}
        for seed in range(40):
            for call, answer in zip(*Maker(seed).made(60)):
                if call[0] in verdicts and answer[0] >= 0:
                    verdicts[call[0]].add(answer[0])
        self.assertEqual(verdicts, {HOLDS: {0, 1}, IS: {0, 1}, GOES: {0, 1}})


if __name__ == "__main__":
    unittest.main()
