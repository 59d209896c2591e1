"""The calls that change something, from rule to finish.

Each is handed a state of its own to change, and answers its numbers; the caller throws the state away
if the answer is a refusal.
"""

from disputation.judging import bad_answers, is_caught, verdict_on
from disputation.refusals import CANNOT, LAID_ALREADY, LAID_DOWN, NO_SUCH, NOTHING, TOO_MANY, WRONG
from disputation.rows import first_row
from disputation.state import MOST_ANSWERS, answered_by, none_laid, right_while, stands_now, takes, takes_all
from disputation.worlds import CONCEDED, DOUBTED, answer_by_known, bearing, how_many

MOST_STOCK = 6


def rule(state, numbers):
    if numbers[0] > 1:
        return [WRONG]
    if not none_laid(state):
        return [LAID_DOWN]
    former = state.rule
    state.rule = numbers[0]
    return [former]


def lay(state, numbers):
    p = numbers[0]
    if not takes(state, p):
        return [WRONG]
    if not none_laid(state):
        return [LAID_ALREADY]
    if p == 0:
        return [CANNOT]
    state.laid = p
    state.given = []
    return [answer_by_known(state.known, p)]


def propose(state, numbers):
    p = numbers[0]
    if not takes(state, p):
        return [WRONG]
    if none_laid(state):
        return [NOTHING]
    if len(state.given) >= MOST_ANSWERS:
        return [TOO_MANY]
    stands = stands_now(state)
    answer = right_while(state, stands, p)
    state.given.append((p, answer))
    return [answer, bearing(answered_by(state, stands), p), how_many(stands_now(state))]


def answer_so(state, numbers):
    p = numbers[0]
    answer = numbers[1]
    if not takes(state, p) or answer > DOUBTED:
        return [WRONG]
    if none_laid(state):
        return [NOTHING]
    if len(state.given) >= MOST_ANSWERS:
        return [TOO_MANY]
    right = right_while(state, stands_now(state), p)
    state.given.append((p, answer))
    return [1 if answer == right else 0, right, how_many(stands_now(state))]


def press(state, numbers):
    t = numbers[0]
    if not takes(state, t):
        return [WRONG]
    if none_laid(state):
        return [NOTHING]
    found = first_row(state, t, CONCEDED)
    if found is None:
        return [CANNOT]
    if len(state.given) + len(found) > MOST_ANSWERS:
        return [TOO_MANY]
    for p in found:
        state.given.append((p, right_while(state, stands_now(state), p)))
    return [len(found)] + found


def strike(state, numbers):
    i = numbers[0]
    if none_laid(state):
        return [NOTHING]
    if i >= len(state.given):
        return [NO_SUCH]
    state.given = state.given[:i] + state.given[i + 1:]
    return [len(state.given)]


def amend(state, numbers):
    i = numbers[0]
    answer = numbers[1]
    if none_laid(state):
        return [NOTHING]
    if i >= len(state.given):
        return [NO_SUCH]
    if answer > DOUBTED:
        return [WRONG]
    former = state.given[i]
    state.given[i] = (former[0], answer)
    return [former[1]]


def learn(state, numbers):
    if not takes(state, numbers[0]):
        return [WRONG]
    known = state.known & numbers[0]
    if known == 0:
        return [CANNOT]
    state.known = known
    return [how_many(known)]


def stock(state, numbers):
    if len(numbers) > MOST_STOCK or not takes_all(state, numbers):
        return [WRONG]
    state.stock = list(numbers)
    return [len(numbers)]


def finish(state, numbers):
    if none_laid(state):
        return [NOTHING]
    bad = len(bad_answers(state))
    told = [verdict_on(state), len(state.given), bad]
    # What is learnt later doesn't make an answer bad, or right, in a disputation that is over: so it's counted now.
    state.ended.append((1 if is_caught(state) else 0, bad))
    state.laid = 0
    state.given = []
    return told


CHANGES = {
    1: rule,
    2: lay,
    3: propose,
    4: answer_so,
    5: press,
    6: strike,
    7: amend,
    8: learn,
    9: stock,
    10: finish,
}


def is_change(number):
    return number in CHANGES


def make_change(state, number, numbers):
    change = CHANGES[number]
    return change(state, numbers)
