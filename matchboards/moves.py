"""Searching what rallies lead to: the states of a rule, and shortest rows.

The arguments of these functions are valid ones: who calls them has checked them.
"""

from collections import deque

from matchboards.steps import FIRST_STATE, next_state


class Moves:
    """What rallies do to the states of a rule; for each state it is worked out once."""

    def __init__(self, rule):
        self.rule = rule
        self.known = {}

    def behind(self, state):
        """Return the tuple of the states behind a rally of side 0 and one of side 1."""
        if state not in self.known:
            self.known[state] = (next_state(self.rule, state, 0), next_state(self.rule, state, 1))
        return self.known[state]


def pairs_behind(one, other, pair):
    """Return what behind does, for a pair of states of two rules that see the same rallies."""
    return tuple(zip(one.behind(pair[0]), other.behind(pair[1])))


def states_that_come(rule):
    """Return the list of the states that rows of any length lead to."""
    moves = Moves(rule)
    return places_that_come(FIRST_STATE, moves.behind)


def places_that_come(start, behind):
    """Return the list of a start and all places that rallies lead to from there; behind tells as below."""
    come = {start: True}
    waiting = deque([start])
    while waiting:
        place = waiting.popleft()
        for further in behind(place):
            if further not in come:
                come[further] = True
                waiting.append(further)
    return list(come)


def row_to_goal(start, behind, is_goal):
    """Return the first of the shortest rows that lead from a start to a goal, or None.

    behind tells of a place, a state or a pair of them, what lies behind each rally.
    """
    if is_goal(start):
        return []
    rows = {start: []}
    waiting = deque([start])
    # Places wait in the order of their rows, so the first row to a place is the one asked for.
    while waiting:
        place = waiting.popleft()
        for rally, further in enumerate(behind(place)):
            if further not in rows:
                rows[further] = rows[place] + [rally]
                if is_goal(further):
                    return rows[further]
                waiting.append(further)
    return None
