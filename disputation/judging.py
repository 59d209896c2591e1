"""Which answers are bad, and the verdict."""

from disputation.state import right_while, stands_behind, stands_now


def is_bad(state, i):
    pair = state.given[i]
    return pair[1] != right_while(state, stands_behind(state, i), pair[0])


def bad_answers(state):
    return [i for i in range(len(state.given)) if is_bad(state, i)]


def is_caught(state):
    return stands_now(state) == 0


def verdict_on(state):
    caught = is_caught(state)
    if len(bad_answers(state)) > 0:
        return 2 if caught else 1
    return 3 if caught else 0
