"""The calls that only ask what is so now or can be made so, from right to reach."""

from disputation.judging import is_bad
from disputation.refusals import CANNOT, NO_SUCH, NOTHING, WRONG
from disputation.rows import can_be_conceded, first_row, first_stock_row, reached_by_rule_0
from disputation.state import (
    all_propositions, answered_by, none_laid, right_while, stands_after_right, stands_now, takes, takes_all,
)
from disputation.worlds import CONCEDED, DENIED, DOUBTED, bearing, how_many, so_in_none

MOST_IN_ROW = 8


def right(state, numbers):
    p = numbers[0]
    if not takes(state, p):
        return [WRONG]
    if none_laid(state):
        return [NOTHING]
    stands = stands_now(state)
    return [right_while(state, stands, p), bearing(answered_by(state, stands), p)]


def row(state, numbers):
    if len(numbers) > MOST_IN_ROW or not takes_all(state, numbers):
        return [WRONG]
    if none_laid(state):
        return [NOTHING]
    told = [len(numbers)]
    stands = stands_now(state)
    for p in numbers:
        told.append(right_while(state, stands, p))
        stands = stands_after_right(state, stands, p)
    return told


def stands_told(state, numbers):
    if none_laid(state):
        return [NOTHING]
    stands = stands_now(state)
    return [how_many(stands), stands]


def log(state, numbers):
    i = numbers[0]
    if none_laid(state):
        return [NOTHING]
    if i >= len(state.given):
        return [NO_SUCH]
    pair = state.given[i]
    return [pair[0], pair[1], 1 if is_bad(state, i) else 0]


def row_told(state, t, wanted):
    if not takes(state, t):
        return [WRONG]
    if none_laid(state):
        return [NOTHING]
    found = first_row(state, t, wanted)
    if found is None:
        return [CANNOT]
    return [len(found)] + found


def concede(state, numbers):
    return row_told(state, numbers[0], CONCEDED)


def deny(state, numbers):
    return row_told(state, numbers[0], DENIED)


def may(state, numbers):
    t = numbers[0]
    if not takes(state, t):
        return [WRONG]
    if none_laid(state):
        return [NOTHING]
    told = 0
    for wanted, counts in ((DENIED, 1), (CONCEDED, 2), (DOUBTED, 4)):
        if first_row(state, t, wanted) is not None:
            told = told + counts
    return [told]


def false(state, numbers):
    if none_laid(state):
        return [NOTHING]
    known_false = [p for p in all_propositions(state) if so_in_none(state.known, p)]
    return [len([p for p in known_false if can_be_conceded(state, p)])]


def from_stock(state, numbers):
    wanted = numbers[0]
    t = numbers[1]
    if wanted > DOUBTED or not takes(state, t):
        return [WRONG]
    if none_laid(state):
        return [NOTHING]
    found = first_stock_row(state, t, wanted)
    if found is None:
        return [CANNOT]
    return [len(found)] + found


def reach(state, numbers):
    if none_laid(state):
        return [NOTHING]
    return [reached_by_rule_0(state)]


QUESTIONS = {
    13: right,
    14: row,
    15: stands_told,
    16: log,
    17: concede,
    18: deny,
    19: may,
    20: false,
    21: from_stock,
    22: reach,
}


def ask(state, number, numbers):
    question = QUESTIONS[number]
    return question(state, numbers)
