"""Rows of propositions that are all rightly answered: what they can lead to."""

from disputation.state import all_propositions, right_while, stands_after_right, stands_now
from disputation.worlds import CONCEDED, so_in_all, so_in_none


def first_row(state, t, wanted):
    """The first of the shortest rows that end in t, and in which t is answered so; None if there is none.

    One proposition ahead of t is enough. By rule 1 none ahead of it matters. By rule 0 right answers never
    take away a known world that stands, nor the last world that stands; and whatever else several of them
    take away, one does as well: the proposition that is so in what they leave and in all known worlds.
    """
    now = stands_now(state)
    if right_while(state, now, t) == wanted:
        return [t]
    for q in all_propositions(state):
        if right_while(state, stands_after_right(state, now, q), t) == wanted:
            return [q, t]
    return None


def can_be_conceded(state, t):
    """If there is a row that ends in t conceded, told without a search, for when many are asked about."""
    now = stands_now(state)
    if state.rule == 1 or now == 0:
        return right_while(state, now, t) == CONCEDED
    return so_in_all(now & state.known, t) and not so_in_none(now, t)


def stock_rows(state):
    """What can stand behind a row of the stock: by the worlds the first of the shortest such rows, as places.

    Shorter rows come first, and of those as long the ones with earlier places.
    """
    rows = {stands_now(state): []}
    reached = [stands_now(state)]
    at = 0
    while at < len(reached):
        for place, q in enumerate(state.stock):
            then = stands_after_right(state, reached[at], q)
            if then not in rows:
                rows[then] = rows[reached[at]] + [place]
                reached.append(then)
        at = at + 1
    return rows


def first_stock_row(state, t, wanted):
    """The first of the shortest rows of the stock, by places, behind which t is answered so; None if none."""
    for stands, places in stock_rows(state).items():
        if right_while(state, stands, t) == wanted:
            return places
    return None


def reached_by_rule_0(state):
    """How many sets of worlds can stand behind a row of the stock, were it answered by rule 0."""
    tried = state.twin()
    tried.rule = 0
    return len(stock_rows(tried))
