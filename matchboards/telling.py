"""Telling two rules apart, by boards or by winners, or finding them alike [5]."""

from matchboards.checks import check_family, check_rule, check_sight
from matchboards.errors import NotFound
from matchboards.grouping import places_by_mark
from matchboards.moves import Moves, pairs_behind, row_to_goal
from matchboards.steps import FIRST_STATE, board_of, match_winner


def same(one, other, sight):
    """Return whether two rules are alike in a sight."""
    return checked_telling_row(one, other, sight) is None


def telling_row(one, other, sight):
    """Return the first of the shortest rows behind whose last rally unlike boards are seen."""
    row = checked_telling_row(one, other, sight)
    if row is None:
        raise NotFound("the two rules are alike")
    return row


def classes(family, sight):
    """Return the ascending list of the groups of places of rules that are alike."""
    # A rule is alike to itself, so each list of the table has a None, the first at the least place alike.
    return places_by_mark([lengths.index(None) for lengths in telling_table(family, sight)])


def telling_table(family, sight):
    """Return for each two places the length of the shortest rows that tell them apart, or None."""
    check_family(family)
    check_sight(sight)
    moves = [Moves(rule) for rule in family]
    table = [[None] * len(family) for _ in family]
    for later in range(len(family)):
        for earlier in range(later):
            row = row_to_unlike_boards(moves[earlier], moves[later], sight)
            if row is not None:
                table[earlier][later] = len(row)
                table[later][earlier] = len(row)
    return table


def same_winners(one, other):
    """Return whether the same is told of the winner behind all rows, of any length."""
    return checked_winners_row(one, other) is None


def winners_row(one, other):
    """Return the first of the shortest rows behind which not the same is told of the winner."""
    row = checked_winners_row(one, other)
    if row is None:
        raise NotFound("the two rules always tell the same of the winner")
    return row


def checked_telling_row(one, other, sight):
    """Return the telling row of arguments that have not been checked yet, or None."""
    check_rule(one)
    check_rule(other)
    check_sight(sight)
    return row_to_unlike_boards(Moves(one), Moves(other), sight)


def checked_winners_row(one, other):
    """Return the winners row of arguments that have not been checked yet, or None."""
    check_rule(one)
    check_rule(other)
    return row_to_unlike(
        Moves(one),
        Moves(other),
        lambda pair: match_winner(one, pair[0]) != match_winner(other, pair[1]),
    )


def row_to_unlike_boards(one, other, sight):
    """Return the first of the shortest rows behind which two rules show unlike boards, or None."""
    return row_to_unlike(
        one,
        other,
        lambda pair: board_of(pair[0], sight) != board_of(pair[1], sight),
    )


def row_to_unlike(one, other, is_unlike):
    """Return the first of the shortest rows to an unlike pair of states of two rules, or None."""
    start = (FIRST_STATE, FIRST_STATE)
    return row_to_goal(start, lambda pair: pairs_behind(one, other, pair), is_unlike)
