"""Sorting the states of rules into kinds: those that are alike [5] are of one kind.

The arguments of these functions are valid ones: who calls them has checked them.
"""

from matchboards.moves import Moves, states_that_come
from matchboards.steps import FIRST_STATE, board_of


class Likeness:
    """The kinds of all states of some rules in a sight, each a number.

    kinds tells the kind of each tuple (rule, state). further tells for each kind what is behind
    a rally of side 0 and one of side 1: two tuples (board that is seen, kind of the state).
    """

    def __init__(self, rules, sight):
        seen = seen_behind(rules, sight)
        self.kinds = kinds_of(seen)
        self.further = {}
        for origin, kind in self.kinds.items():
            if kind not in self.further:
                self.further[kind] = kinds_behind(seen, self.kinds, origin)

    def first_kind(self, rule):
        """Return the kind of the first state of a rule."""
        return self.kinds[(rule, FIRST_STATE)]


def seen_behind(rules, sight):
    """Return for each (rule, state) the tuples (board, (rule, state)) behind a rally of each side."""
    seen = {}
    for rule in rules:
        moves = Moves(rule)
        for state in states_that_come(rule):
            seen[(rule, state)] = tuple([
                (board_of(further, sight), (rule, further))
                for further in moves.behind(state)
            ])
    return seen


def kinds_behind(seen, kinds, origin):
    """Return the tuples (board, kind) behind a rally of each side."""
    return tuple([(board, kinds[further]) for board, further in seen[origin]])


def kinds_of(seen):
    """Return the kind of each (rule, state)."""
    # The board of a state itself is seen ahead of its rallies, so it does not part the states.
    kinds = {origin: 0 for origin in seen}
    many = 1
    while True:
        kinds, finer = parted_kinds(seen, kinds)
        if finer == many:
            return kinds
        many = finer


def parted_kinds(seen, kinds):
    """Return the kinds that are told apart by one rally more, and how many there are."""
    numbers = {}
    finer = {}
    for origin in seen:
        told = (kinds[origin], kinds_behind(seen, kinds, origin))
        finer[origin] = numbers.setdefault(told, len(numbers))
    return finer, len(numbers)
