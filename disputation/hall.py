"""A hall: a line of calls on one new object, and what they answer."""

from disputation.changes import is_change, make_change
from disputation.questions import ask
from disputation.reckoning import is_reckoned, reckon
from disputation.refusals import NOT_BEGUN, NOTHING, WRONG
from disputation.state import State
from disputation.verdicts import is_verdict, judge
from disputation.worlds import is_proposition

BEGIN = 0
STOCK = 9
BACK = 11
AGAIN = 12
ROW = 14
STATE = 42

MOST_LETTERS = 3
MOST_TAKEN_BACK = 20

# By a call's number: how many whole numbers it has. Those of stock and row stand in their lists.
SIZES = (
    2, 1, 1, 1, 2, 1, 1, 2, 1, 0, 0, 0, 0, 1, 0, 0, 1, 1, 1, 1, 0, 2, 0,
    0, 0, 0, 0, 0, 0, 1, 0, 1, 0, 2, 0, 0, 1, 1, 2, 2, 2, 0, 0,
)


class Hall:
    """The state now (None before a begin), those before the last changes, and those taken back."""

    def __init__(self):
        self.now = None
        self.earlier = []
        self.undone = []

    def call(self, number, numbers):
        if number == BEGIN:
            return self.begin(numbers[0], numbers[1])
        if self.now is None:
            return [NOT_BEGUN]
        if number == BACK:
            return self.back()
        if number == AGAIN:
            return self.again()
        if number == STATE:
            return self.told_state()
        if is_change(number):
            return self.change(number, numbers)
        if is_verdict(number):
            return judge(self.now, number, numbers)
        if is_reckoned(number):
            return reckon(self.now, number, numbers)
        return ask(self.now, number, numbers)

    def begin(self, letters, known):
        if letters < 1 or letters > MOST_LETTERS:
            return [WRONG]
        if not is_proposition(letters, known) or known == 0:
            return [WRONG]
        self.now = State(letters, known)
        self.earlier = []
        self.undone = []
        return [0]

    def change(self, number, numbers):
        changed = self.now.twin()
        told = make_change(changed, number, numbers)
        if told[0] >= 0:
            self.earlier.append(self.now)
            self.earlier = self.earlier[-MOST_TAKEN_BACK:]
            self.undone = []
            self.now = changed
        return told

    def back(self):
        if len(self.earlier) == 0:
            return [NOTHING]
        self.undone.append(self.now)
        self.now = self.earlier.pop()
        return [len(self.earlier)]

    def again(self):
        if len(self.undone) == 0:
            return [NOTHING]
        self.earlier.append(self.now)
        self.now = self.undone.pop()
        return [len(self.undone)]

    def told_state(self):
        now = self.now
        told = [now.letters, now.known, now.rule, now.laid, len(now.given), len(self.earlier), len(self.undone)]
        return told + now.stock


def answers(calls):
    held = Hall()
    told = []
    at = 0
    while at < len(calls):
        number = calls[at]
        start = at + 1
        size = SIZES[number]
        if number == STOCK or number == ROW:
            size = calls[start]
            start = start + 1
        answer = held.call(number, calls[start:start + size])
        told.append(len(answer))
        told.extend(answer)
        at = start + size
    return told
