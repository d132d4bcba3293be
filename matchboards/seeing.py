"""Reading rules and rallies from board rows alone."""

from matchboards.checks import check_boards, check_family, check_rule, check_sight
from matchboards.errors import NotFound
from matchboards.moves import Moves
from matchboards.steps import FIRST_STATE, board_of


def can_show(rule, sight, boards):
    """Return whether just these boards are seen for some row."""
    return count_rows(rule, sight, boards) > 0


def showers(family, sight, boards):
    """Return the ascending list of the places of the rules that can show these boards."""
    check_family(family)
    check_sight(sight)
    check_boards(boards, sight)
    return [place for place, rule in enumerate(family) if traces(rule, sight, boards)]


def first_row(rule, sight, boards):
    """Return the first of the rows for which these boards are seen."""
    rows = [row for row, _ in checked_traces(rule, sight, boards).values()]
    if not rows:
        raise NotFound("no row shows these boards")
    return rows[0]


def states_behind(rule, sight, boards):
    """Return the ascending list of the states that the rows lead to for which these boards are seen."""
    return sorted(checked_traces(rule, sight, boards))


def count_rows(rule, sight, boards):
    """Return for how many rows these boards are seen."""
    return sum([many for _, many in checked_traces(rule, sight, boards).values()])


def checked_traces(rule, sight, boards):
    """Return the traces of arguments that have not been checked yet."""
    check_rule(rule)
    check_sight(sight)
    check_boards(boards, sight)
    return traces(rule, sight, boards)


def traces(rule, sight, boards):
    """Return for each state that rows with these boards lead to: the first such row, and how many.

    The states stand in the order of their first rows.
    """
    moves = Moves(rule)
    found = {FIRST_STATE: ([], 1)}
    for board in boards:
        found = traces_behind(moves, sight, board, found)
    return found


def traces_behind(moves, sight, board, found):
    """Return the traces one rally further on, behind which a board is seen."""
    further = {}
    # Rows are lengthened in their order, so the row that comes first to a state is its first one.
    for state, (row, many) in found.items():
        for rally, reached in enumerate(moves.behind(state)):
            if reached in further:
                earlier, count = further[reached]
                further[reached] = (earlier, count + many)
            elif board_of(reached, sight) == board:
                further[reached] = (row + [rally], many)
    return further
