"""What a hall holds at one time, and what follows of it for the next answer."""

from disputation.worlds import always, is_proposition, narrowed, right_by

MOST_ANSWERS = 8


class State:
    """Letters, known worlds, rule, what is laid down (0: nothing), answers given, stock; of each disputation
    that is over if one was caught (1 or 0) and how many answers were bad."""

    def __init__(self, letters, known):
        self.letters = letters
        self.known = known
        self.rule = 0
        self.laid = 0
        self.given = []
        self.stock = []
        self.ended = []

    def twin(self):
        other = State(self.letters, self.known)
        other.rule = self.rule
        other.laid = self.laid
        other.given = list(self.given)
        other.stock = list(self.stock)
        other.ended = list(self.ended)
        return other


def takes(state, p):
    return is_proposition(state.letters, p)


def takes_all(state, propositions):
    return all([takes(state, p) for p in propositions])


def all_propositions(state):
    return list(range(always(state.letters) + 1))


def none_laid(state):
    return state.laid == 0


def answered_by(state, stands):
    """The worlds by which the rule has things answered while these stand."""
    if state.rule == 1:
        return state.laid
    return stands


def right_while(state, stands, p):
    return right_by(answered_by(state, stands), state.known, p)


def stands_after_right(state, stands, p):
    return narrowed(stands, p, right_while(state, stands, p))


def stands_behind(state, many):
    """What stands behind the first so many answers."""
    stands = state.laid
    for p, answer in state.given[:many]:
        stands = narrowed(stands, p, answer)
    return stands


def stands_now(state):
    return stands_behind(state, len(state.given))
