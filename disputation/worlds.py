"""Worlds, propositions as sets of them, and the right answer by some worlds."""

DENIED = 0
CONCEDED = 1
DOUBTED = 2

NO_MATTER = 0
FOLLOWS = 1
AGAINST = 2

# By how many letters there are: the proposition that is so in every world, the greatest one.
ALWAYS = (0, 3, 15, 255)

# By a letter's number: the proposition that it is so, were there three letters. The worlds of fewer letters are
# the first ones of these.
LETTERS = (170, 204, 240)


def always(letters):
    return ALWAYS[letters]


def is_proposition(letters, p):
    return p <= ALWAYS[letters]


def letter_is_so(letters, i):
    return LETTERS[i] & ALWAYS[letters]


def not_so(letters, p):
    return ALWAYS[letters] - p


def how_many(worlds):
    found = 0
    rest = worlds
    while rest > 0:
        found = found + rest % 2
        rest = rest // 2
    return found


def so_in_all(worlds, p):
    return worlds & p == worlds


def so_in_none(worlds, p):
    return worlds & p == 0


def bearing(worlds, p):
    # Of no worlds everything follows, so that has to be asked first.
    if so_in_all(worlds, p):
        return FOLLOWS
    if so_in_none(worlds, p):
        return AGAINST
    return NO_MATTER


def answer_by_known(known, p):
    if so_in_all(known, p):
        return CONCEDED
    if so_in_none(known, p):
        return DENIED
    return DOUBTED


def right_by(worlds, known, p):
    found = bearing(worlds, p)
    if found == FOLLOWS:
        return CONCEDED
    if found == AGAINST:
        return DENIED
    return answer_by_known(known, p)


def narrowed(stands, p, answer):
    if answer == CONCEDED:
        return stands & p
    if answer == DENIED:
        return stands - (stands & p)
    return stands
