"""The calls for which nothing has to be laid down, from letter to sums."""

from disputation.refusals import NO_SUCH, WRONG
from disputation.state import takes_all
from disputation.worlds import letter_is_so, not_so


def letter(state, numbers):
    if numbers[0] >= state.letters:
        return [NO_SUCH]
    return [letter_is_so(state.letters, numbers[0])]


def not_of(state, numbers):
    if not takes_all(state, numbers):
        return [WRONG]
    return [not_so(state.letters, numbers[0])]


def both(state, numbers):
    if not takes_all(state, numbers):
        return [WRONG]
    return [numbers[0] & numbers[1]]


def either(state, numbers):
    if not takes_all(state, numbers):
        return [WRONG]
    return [numbers[0] | numbers[1]]


def if_then(state, numbers):
    if not takes_all(state, numbers):
        return [WRONG]
    return [not_so(state.letters, numbers[0]) | numbers[1]]


def sums(state, numbers):
    caught = sum([pair[0] for pair in state.ended])
    bad = sum([pair[1] for pair in state.ended])
    return [len(state.ended), caught, bad]


RECKONED = {
    36: letter,
    37: not_of,
    38: both,
    39: either,
    40: if_then,
    41: sums,
}


def is_reckoned(number):
    return number in RECKONED


def reckon(state, number, numbers):
    call = RECKONED[number]
    return call(state, numbers)
