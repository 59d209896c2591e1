"""Which answers are bad, what would have made them right, and the verdict."""

from disputation.state import all_propositions, right_while, stands_after_right, stands_behind, stands_now
from disputation.worlds import CONCEDED, DENIED, narrowed, right_by


def right_answer(state, i):
    """The right one to what was proposed there, as it was given."""
    return right_while(state, stands_behind(state, i), state.given[i][0])


def is_bad(state, i):
    return state.given[i][1] != right_answer(state, i)


def bad_answers(state):
    return [i for i in range(len(state.given)) if is_bad(state, i)]


def all_is_right(state):
    """The same as no bad answers, but quick, for when many states are tried."""
    stands = state.laid
    for p, answer in state.given:
        if answer != right_while(state, stands, p):
            return False
        stands = narrowed(stands, p, answer)
    return True


def is_caught(state):
    return stands_now(state) == 0


def caught_behind(state):
    """Behind how few answers nothing stands, of one who is caught."""
    many = 0
    while stands_behind(state, many) > 0:
        many = many + 1
    return many


def verdict_on(state):
    caught = is_caught(state)
    if len(bad_answers(state)) > 0:
        return 2 if caught else 1
    return 3 if caught else 0


def mended_answers(state):
    mended = []
    stands = state.laid
    for p, answer in state.given:
        mended.append(right_while(state, stands, p))
        stands = stands_after_right(state, stands, p)
    return mended


def bad_by_other_rule(state):
    tried = state.twin()
    tried.rule = 1 - state.rule
    return bad_answers(tried)


def sets_of_answers(many):
    """All sets of so many answers, rising by the number in which answer i counts 2 to the power of i."""
    sets = [[]]
    for i in range(many):
        sets = sets + [found + [i] for found in sets]
    return sets


def fewest_to_strike(state):
    tried = state.twin()
    fewest = list(range(len(state.given)))
    for struck in sets_of_answers(len(state.given)):
        if len(struck) < len(fewest):
            tried.given = [state.given[i] for i in range(len(state.given)) if i not in struck]
            if all_is_right(tried):
                fewest = struck
    return fewest


def right_if_laid(state):
    """The propositions by which all would be right, had one been laid down instead; rising."""
    tried = state.twin()
    found = []
    for p in all_propositions(state)[1:]:
        tried.laid = p
        if all_is_right(tried):
            found.append(p)
    return found


def right_if_known(state):
    """The sets of worlds by which all would be right, were one known instead; rising."""
    tried = state.twin()
    found = []
    for k in all_propositions(state)[1:]:
        tried.known = k
        if all_is_right(tried):
            found.append(k)
    return found


def answer_by_laid(state, p):
    return right_by(state.laid, state.known, p)


def do_clash(state, p, q):
    if answer_by_laid(state, p) != CONCEDED or answer_by_laid(state, q) != CONCEDED:
        return False
    return answer_by_laid(state, p & q) == DENIED


def clashing_pairs(state):
    """How many pairs clash; which of the two is named first makes no other pair."""
    found = 0
    conceded = [p for p in all_propositions(state) if answer_by_laid(state, p) == CONCEDED]
    for i, p in enumerate(conceded):
        for q in conceded[i + 1:]:
            if answer_by_laid(state, p & q) == DENIED:
                found = found + 1
    return found
