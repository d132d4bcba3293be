"""What matches of a rule there can be: how long, with how many points, and for which side."""

from matchboards.checks import check_length, check_row, check_rule, check_side
from matchboards.moves import Moves, places_that_come, row_to_goal, states_that_come
from matchboards.running import state_after
from matchboards.steps import FIRST_STATE, match_winner, next_state, point_maker

# By how much a point of a side (None: of no side) makes side 0's lead greater.
GAINS = {None: 0, 0: 1, 1: -1}


def shortest_match(rule):
    """Return the first of the shortest rows that end the match."""
    check_rule(rule)
    moves = Moves(rule)
    return row_to_goal(FIRST_STATE, moves.behind, lambda state: match_winner(rule, state) is not None)


def longest_match(rule):
    """Return the greatest number of rallies of a match, or None if there is none."""
    check_rule(rule)
    moves = Moves(rule)
    many = len(states_that_come(rule))
    going_on = [FIRST_STATE]
    rallies = 0
    while going_on:
        # Behind so many rallies some state has come twice, and can come ever again.
        if rallies == many:
            return None
        going_on = sorted({
            further
            for state in going_on
            for further in moves.behind(state)
            if match_winner(rule, further) is None
        })
        rallies += 1
    return rallies


def count_ends(rule, length):
    """Return how many rows of a length end the match with their last rally."""
    check_rule(rule)
    check_length(length)
    moves = Moves(rule)
    going_on = {FIRST_STATE: 1}
    ended = 0
    for _ in range(length):
        going_on, ended = rows_behind(rule, moves, going_on)
    return ended


def rows_behind(rule, moves, going_on):
    """Return the numbers of rows by their states one rally further on, and how many ended the match just then."""
    found = {}
    ended = 0
    for state, many in going_on.items():
        for further in moves.behind(state):
            if match_winner(rule, further) is None:
                found[further] = found.get(further, 0) + many
            else:
                ended += many
    return found, ended


def fewest_points(rule):
    """Return the greatest number of points that the winner can have made fewer; below 0 if always more."""
    check_rule(rule)
    # A point of the winner counts against it here, one of the other side for it.
    return max([
        -lead if match_winner(rule, state) == 0 else lead
        for state, lead in leads_that_come(rule)
        if match_winner(rule, state) is not None
    ])


def lost_lead(rule):
    """Return the greatest number of points that a side that does not win can have been ahead by."""
    check_rule(rule)
    # As long as the match goes on, either side can still win it; it ends by a point of its winner,
    # so the other side was further ahead before that.
    return max([
        abs(lead)
        for state, lead in leads_that_come(rule)
        if match_winner(rule, state) is None
    ])


def leads_that_come(rule):
    """Return the list of the tuples (state, points that side 0 has made more) that rows lead to."""
    return places_that_come((FIRST_STATE, 0), lambda place: leads_behind(rule, place))


def leads_behind(rule, place):
    """Return the tuples (state, lead) behind a rally of side 0 and one of side 1."""
    state, lead = place
    return tuple([
        (next_state(rule, state, rally), lead + GAINS[point_maker(rule, state, rally)])
        for rally in (0, 1)
    ])


def soonest(rule, row, side):
    """Return within how many rallies behind a row a side can have won the match, or None."""
    check_rule(rule)
    check_row(row)
    check_side(side)
    moves = Moves(rule)
    further = row_to_goal(state_after(rule, row), moves.behind, lambda state: match_winner(rule, state) == side)
    return None if further is None else len(further)
