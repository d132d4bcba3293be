"""Telling two rules apart by what can be seen of them, whatever the rallies are."""

from collections import deque

from matchboards.checks import check_family, check_rule, check_sight
from matchboards.errors import NotFound
from matchboards.grouping import places_by_mark
from matchboards.moves import Moves
from matchboards.steps import FIRST_STATE, board_of


class Views:
    """What can be seen of a rule from some states, of which any one may be the true one."""

    def __init__(self, rule, sight):
        self.moves = Moves(rule)
        self.sight = sight
        self.known = {}

    def onward(self, states):
        """Return a dict: for each board that can be seen next, the tuple of the states behind it."""
        if states not in self.known:
            found = {}
            for state in states:
                for further in self.moves.behind(state):
                    found.setdefault(board_of(further, self.sight), {})[further] = True
            # Sorted, so that the same states are the same key.
            self.known[states] = {board: tuple(sorted(found[board])) for board in found}
        return self.known[states]


def is_within(one, other, sight):
    """Return whether each board row that can be seen of the one rule can be seen of the other one."""
    one_views, other_views = checked_views(one, other, sight)
    return first_telling(one_views, other_views, (0,)) is None


def telling_boards(one, other, sight):
    """Return the first of the shortest board rows that can be seen of just one rule, and of which."""
    one_views, other_views = checked_views(one, other, sight)
    told = first_telling(one_views, other_views, (0, 1))
    if told is None:
        raise NotFound("the same board rows can be seen of both rules")
    return told


def spoken_classes(family, sight):
    """Return the ascending list of the groups of places of rules of which the same can be seen."""
    check_family(family)
    check_sight(sight)
    views = [Views(rule, sight) for rule in family]
    return places_by_mark([first_same_place(views, view) for view in views])


def first_same_place(views, view):
    """Return the least place of views by which the same board rows can be seen."""
    place = 0
    while first_telling(views[place], view, (0, 1)) is not None:
        place += 1
    return place


def checked_views(one, other, sight):
    """Return the views of two rules, from arguments that have not been checked yet."""
    check_rule(one)
    check_rule(other)
    check_sight(sight)
    return Views(one, sight), Views(other, sight)


def first_telling(one, other, owners):
    """Return the first of the shortest board rows that can be seen of just one of two, and of which.

    Just those of an owner (0 for one, 1 for other) count; None if there is none.
    """
    start = ((FIRST_STATE,), (FIRST_STATE,))
    rows = {start: []}
    waiting = deque([start])
    # Pairs wait in the order of their board rows, so the first one found is the one asked for.
    while waiting:
        pair = waiting.popleft()
        seen = (one.onward(pair[0]), other.onward(pair[1]))
        for board in sorted(set(seen[0]) | set(seen[1])):
            row = rows[pair] + [board]
            if board in seen[0] and board in seen[1]:
                further = (seen[0][board], seen[1][board])
                if further not in rows:
                    rows[further] = row
                    waiting.append(further)
            else:
                owner = 0 if board in seen[0] else 1
                if owner in owners:
                    return (row, owner)
    return None
