"""The states and boards that rows lead to, from the first state [3]."""

from matchboards.checks import check_rule, check_state
from matchboards.errors import NotFound
from matchboards.moves import Moves, row_to_goal, states_that_come
from matchboards.steps import FIRST_STATE, board_of


def count_states(rule):
    """Return how many states all rows lead to."""
    check_rule(rule)
    return len(states_that_come(rule))


def row_to(rule, state):
    """Return the first of the shortest rows to a state."""
    check_rule(rule)
    check_state(state)
    moves = Moves(rule)
    row = row_to_goal(FIRST_STATE, moves.behind, lambda place: place == state)
    if row is None:
        raise NotFound("no row leads to this state")
    return row


def boards_that_come(rule):
    """Return the ascending list of the whole boards of all states that rows lead to."""
    check_rule(rule)
    return sorted({board_of(state, 0) for state in states_that_come(rule)})
