"""Running a rule over a row of rallies, from its first state [3], [4]."""

from matchboards.checks import check_row, check_rule, check_sight
from matchboards.errors import NotFound
from matchboards.steps import FIRST_STATE, board_of, match_winner, point_maker, states_from


def boards_of(rule, row, sight):
    """Return the list of the boards behind each rally, as they are seen in a sight."""
    check_rule(rule)
    check_row(row)
    check_sight(sight)
    return [board_of(state, sight) for state in states_from(rule, FIRST_STATE, row)[1:]]


def state_after(rule, row):
    """Return the state behind a row."""
    return states_along(rule, row)[-1]


def states_along(rule, row):
    """Return the list of the state ahead of all rallies and of those behind each."""
    check_rule(rule)
    check_row(row)
    return states_from(rule, FIRST_STATE, row)


def points_made(rule, row):
    """Return a tuple: the points that each side has made since the beginning of the match."""
    states = states_along(rule, row)
    made = [0, 0]
    for state, rally in zip(states, row):
        maker = point_maker(rule, state, rally)
        if maker is not None:
            made[maker] += 1
    return (made[0], made[1])


def winner_of(rule, row):
    """Return the side that has won the match, or None."""
    return match_winner(rule, state_after(rule, row))


def end_of(rule, row):
    """Return how many rallies there are up to the one that ends the match."""
    for rallies, state in enumerate(states_along(rule, row)):
        if match_winner(rule, state) is not None:
            return rallies
    raise NotFound("the match has not ended")
