"""Choosing the next rally, and counting the rows that do not tell two rules apart."""

from matchboards.checks import check_length, check_rule, check_sight
from matchboards.errors import NotFound
from matchboards.likeness import Likeness
from matchboards.reading import remains
from matchboards.running import state_after
from matchboards.steps import board_of, next_state


def best_rally(family, sight, record):
    """Return the least rally that parts the rules that made a record so that the greatest group is least."""
    places = remains(family, sight, [record])
    if not places:
        raise NotFound("no rule made this record")
    row, _ = record
    come = [(family[place], state_after(family[place], row)) for place in places]
    if greatest_group(come, sight, 1) < greatest_group(come, sight, 0):
        return 1
    return 0


def greatest_group(come, sight, rally):
    """Return how many rules of a list of (rule, state) show the same board behind a rally at most."""
    many = {}
    for rule, state in come:
        board = board_of(next_state(rule, state, rally), sight)
        many[board] = many.get(board, 0) + 1
    return max(many.values())


def count_same(one, other, sight, length):
    """Return for how many rows of a length two rules show the same boards."""
    check_rule(one)
    check_rule(other)
    check_sight(sight)
    check_length(length)
    likeness = Likeness([one, other], sight)
    rows = {(likeness.first_kind(one), likeness.first_kind(other)): 1}
    for _ in range(length):
        rows = same_rows_behind(likeness.further, rows)
    return sum(rows.values())


def same_rows_behind(further, rows):
    """Return the numbers of rows that lead to each pair of kinds, one rally further on."""
    found = {}
    for pair, many in rows.items():
        for (board, kind), (other_board, other_kind) in zip(further[pair[0]], further[pair[1]]):
            if board == other_board:
                reached = (kind, other_kind)
                found[reached] = found.get(reached, 0) + many
    return found
