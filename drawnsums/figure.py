"""The figure: points drawn step by step, and what is answered to the calls on it.

A point is its step (the kind, and what was told with it), its three sums, each
letter's reach in it, and how heavy it is. The figure is the object that the calls
are on. answers gives, for each call, how many numbers are answered, and then these.
"""

from drawnsums.asking import asked
from drawnsums.limits import MOST_HEAVY, MOST_LETTERS, MOST_PLACES, MOST_POINTS, OWN_LETTERS
from drawnsums.limits import count_of_points, heavy_by, numbers_fit, places, reach_by
from drawnsums.looking import looked_at
from drawnsums.reading import BEGIN, COMMON, FIRST_STEP, LAST_STEP, OUT, read_calls
from drawnsums.refusals import DOES_NOT_FIT, FULL, NEVER_THERE, NOT_BEGUN, NOT_THERE, TOO_MUCH
from drawnsums.steps import drawn
from drawnsums.sums import constant, is_nought, letter


class Point:
    def __init__(self, kind, told, xyw, reach, heavy):
        self.kind = kind
        self.told = told
        self.x = xyw[0]
        self.y = xyw[1]
        self.w = xyw[2]
        self.reach = reach
        self.heavy = heavy


class Figure:
    def __init__(self):
        self.begun = False
        self.points = []
        self.letters = 0

    def answer(self, call):
        if call.number == BEGIN:
            return [self.begin()]
        if not self.begun:
            return [NOT_BEGUN]
        if call.number <= LAST_STEP:
            return [self.draw(call.number - FIRST_STEP, call.told)]
        if call.number == OUT:
            return [self.take_out()]
        if call.number <= COMMON:
            return looked_at(self, call)
        return asked(self, call)

    def begin(self):
        self.begun = True
        self.points = []
        self.letters = 0
        return 0

    def draw(self, kind, told):
        count = count_of_points(kind)
        if not all([self.has_point(p) for p in told[:count]]):
            return NOT_THERE
        if not numbers_fit(kind, told[count:]):
            return DOES_NOT_FIT
        if not self.has_room(kind):
            return FULL
        sources = [self.points[p] for p in told[:count]]
        reach = reach_by(kind, sources, self.letters)
        heavy = heavy_by(kind, sources)
        # This comes ahead of multiplying out: it is what keeps that short.
        if heavy > MOST_HEAVY or places(reach) > MOST_PLACES:
            return TOO_MUCH
        numbers = [constant(number) for number in told[count:]]
        xyw = drawn(kind, sources + numbers + self.next_letters(kind))
        return self.keep(Point(kind, told, xyw, reach, heavy))

    def has_point(self, p):
        return 0 <= p < len(self.points)

    def has_letter(self, index):
        return 0 <= index < self.letters

    def has_room(self, kind):
        return len(self.points) < MOST_POINTS and self.letters + OWN_LETTERS[kind] <= MOST_LETTERS

    def next_letters(self, kind):
        return [letter(index) for index in range(self.letters, self.letters + OWN_LETTERS[kind])]

    def keep(self, point):
        if is_nought(point.w):
            return NEVER_THERE
        self.points.append(point)
        self.letters += OWN_LETTERS[point.kind]
        return len(self.points) - 1

    def take_out(self):
        if len(self.points) == 0:
            return NOT_THERE
        point = self.points.pop()
        self.letters -= OWN_LETTERS[point.kind]
        return len(self.points)


def answers(calls):
    figure = Figure()
    given = []
    for call in read_calls(calls):
        answered = figure.answer(call)
        given.append(len(answered))
        given.extend(answered)
    return given
