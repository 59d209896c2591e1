"""The calls that judge the disputation that is held, from bad to verdict."""

from disputation.judging import (
    bad_answers, bad_by_other_rule, caught_behind, clashing_pairs, do_clash, fewest_to_strike, is_caught,
    mended_answers, right_answer, right_if_known, right_if_laid, verdict_on,
)
from disputation.refusals import CANNOT, NOTHING, WRONG
from disputation.state import none_laid, takes_all

CLASH = 33


def counted(numbers):
    return [len(numbers)] + numbers


def one_of(found, k):
    if k >= len(found):
        return [CANNOT]
    return [found[k]]


def bad(state, numbers):
    return counted(bad_answers(state))


def first(state, numbers):
    found = bad_answers(state)
    if len(found) == 0:
        return [CANNOT]
    return [found[0], right_answer(state, found[0])]


def caught(state, numbers):
    if not is_caught(state):
        return [CANNOT]
    return [caught_behind(state)]


def mended(state, numbers):
    return counted(mended_answers(state))


def least(state, numbers):
    return counted(fewest_to_strike(state))


def laids(state, numbers):
    return [len(right_if_laid(state))]


def laid(state, numbers):
    return one_of(right_if_laid(state), numbers[0])


def knowns(state, numbers):
    return [len(right_if_known(state))]


def known(state, numbers):
    return one_of(right_if_known(state), numbers[0])


def other(state, numbers):
    return counted(bad_by_other_rule(state))


def clash(state, numbers):
    return [1 if do_clash(state, numbers[0], numbers[1]) else 0]


def clashes(state, numbers):
    return [clashing_pairs(state)]


def verdict(state, numbers):
    return [verdict_on(state)]


VERDICTS = {
    23: bad,
    24: first,
    25: caught,
    26: mended,
    27: least,
    28: laids,
    29: laid,
    30: knowns,
    31: known,
    32: other,
    33: clash,
    34: clashes,
    35: verdict,
}


def is_verdict(number):
    return number in VERDICTS


def judge(state, number, numbers):
    # Of these calls clash alone is given propositions; k of laid and known is a place, and any number will do.
    if number == CLASH and not takes_all(state, numbers):
        return [WRONG]
    if none_laid(state):
        return [NOTHING]
    call = VERDICTS[number]
    return call(state, numbers)
