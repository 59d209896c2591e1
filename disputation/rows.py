"""Rows of propositions that are all rightly answered: what they can lead to."""

from disputation.state import all_propositions, right_while, stands_after_right, stands_now
from disputation.worlds import CONCEDED, so_in_all, so_in_none


def first_row(state, t, wanted):
    """The first of the shortest rows that end in t, and in which t is answered so; None if there is none.

    One proposition ahead of t is enough. By rule 1 none ahead of it matters. By rule 0 right answers never
    take away a known world that stands, nor the last world that stands; and whatever else several of them
    take away, one does as well: the proposition that is so in what they leave and in all known worlds.
    """
    now = stands_now(state)
    if right_while(state, now, t) == wanted:
        return [t]
    for q in all_propositions(state):
        if right_while(state, stands_after_right(state, now, q), t) == wanted:
            return [q, t]
    return None


def can_be_conceded(state, t):
    """If there is a row that ends in t conceded, told without a search, for when many are asked about."""
    now = stands_now(state)
    if state.rule == 1 or now == 0:
        return right_while(state, now, t) == CONCEDED
    return so_in_all(now & state.known, t) and not so_in_none(now, t)


def first_stock_row(state, t, wanted):
    """The first of the shortest rows of the stock, by places, behind which t is answered so; None if none."""
    reached = [stands_now(state)]
    ways = [[]]
    at = 0
    # Shorter rows come first, and of those as long the ones with earlier places: the first hit is the one.
    while at < len(reached):
        if right_while(state, reached[at], t) == wanted:
            return ways[at]
        for place, q in enumerate(state.stock):
            then = stands_after_right(state, reached[at], q)
            if then not in reached:
                reached.append(then)
                ways.append(ways[at] + [place])
        at = at + 1
    return None
