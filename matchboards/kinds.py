"""The states of one rule that are alike [5]: no row tells from which one it began."""

from matchboards.checks import check_rule, check_sight
from matchboards.grouping import places_by_mark
from matchboards.likeness import Likeness
from matchboards.moves import states_that_come


def alike_groups(rule, sight):
    """Return the ascending list of the groups (ascending lists) of states that are alike."""
    check_rule(rule)
    check_sight(sight)
    kinds = Likeness([rule], sight).kinds
    states = sorted(states_that_come(rule))
    places = places_by_mark([kinds[(rule, state)] for state in states])
    return [[states[place] for place in group] for group in places]


def count_kinds(rule, sight):
    """Return the number of the groups of states that are alike."""
    return len(alike_groups(rule, sight))
