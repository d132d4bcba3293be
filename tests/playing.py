"""Searches of the tests' own over whole matches, by the second scorer of scoring.py."""

import functools

from tests.scoring import Scorer
from tests.searching import FIRST, machine, scorer_after, shows


@functools.lru_cache(maxsize=None)
def leads(rule):
    """Return all (state, points that side 0 made more, winner) that rows lead to."""
    found = {}
    waiting = [Scorer(rule)]
    while waiting:
        scorer = waiting.pop()
        place = (scorer.state(), scorer.total[0] - scorer.total[1])
        if place not in found:
            found[place] = scorer.winner()
            waiting += [scorer_after(scorer, rally) for rally in (0, 1)]
    return [(state, lead, winner) for (state, lead), winner in found.items()]


@functools.lru_cache(maxsize=None)
def rallies_to_win(rule, side):
    """Return for each state from which a side can win the least number of rallies, counted from the wins back."""
    moves = machine(rule)
    winners = shows(rule, "winner")
    level = [state for state in moves if winners[state] == side]
    found = {}
    many = 0
    while level:
        found.update((state, many) for state in level)
        many += 1
        level = [state for state, behind in moves.items() if state not in found and (behind[0] in found or behind[1] in found)]
    return found


def longest(rule):
    """Return the greatest number of rallies from the first state to the end, or None, state by state."""
    moves = machine(rule)
    winners = shows(rule, "winner")
    known = {}
    path = set()

    def rallies_from(state):
        if winners[state] is not None:
            return 0
        if state in path:
            return None
        if state not in known:
            path.add(state)
            further = [rallies_from(reached) for reached in moves[state]]
            path.discard(state)
            known[state] = None if None in further else 1 + max(further)
        return known[state]

    return rallies_from(FIRST)


def ends(rule, length):
    """Return how many rows end the match with just their last rally, counted from the last rally back."""
    moves = machine(rule)
    winners = shows(rule, "winner")
    open_states = [state for state in moves if winners[state] is None]
    ways = {state: 1 if winners[state] is not None else 0 for state in moves}
    for _ in range(length):
        ways = {state: sum(ways.get(reached, 0) for reached in moves[state]) for state in open_states}
    return ways[FIRST] if length else 0
