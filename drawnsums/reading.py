"""Reading the list that is handed in, call by call.

A call has its number, what is told with it as whole numbers, its rows, and where
in the list the next call is, behind it.
"""

BEGIN = 0
FIRST_STEP = 1
LAST_STEP = 13
OUT = 14
POINTS = 15
STEP = 16
NUMBERS = 17
DEGREE = 18
COMMON = 19
HOLDS = 20
RESTS = 21
REST = 22
POWER = 23
AT = 24
IS = 25

# By a call's number, 0 to 26: how many whole numbers it has, and how many rows.
WHOLE_NUMBERS = (0, 2, 0, 2, 4, 3, 4, 3, 3, 2, 3, 3, 2, 3, 0, 0, 1, 2, 2, 1, 1, 1, 2, 2, 2, 2, 4)
ROWS = (0, 0, 0, 0, 0, 0, 0, 0, 0, 0, 0, 0, 0, 0, 0, 0, 0, 0, 0, 0, 1, 1, 1, 1, 2, 2, 1)


class Call:
    def __init__(self, calls, at):
        self.number = calls[at]
        behind = at + 1 + WHOLE_NUMBERS[self.number]
        self.told = calls[at + 1:behind]
        self.rows = []
        for row in range(ROWS[self.number]):
            size = calls[behind]
            self.rows.append(calls[behind + 1:behind + 1 + size])
            behind += 1 + size
        self.behind = behind


def read_calls(calls):
    found = []
    at = 0
    while at < len(calls):
        call = Call(calls, at)
        found.append(call)
        at = call.behind
    return found
