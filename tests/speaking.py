"""A search of the tests' own over what can be seen of rules, over what searching.py says.

It follows each state of the one rule by itself, beside all states that the other
rule may have come to; it keeps the least board row to each, length by length.
"""

from tests.searching import FIRST, machine, shows


def least_only_of(one, other, sight):
    """Return the least of the shortest board rows that can be seen of the one rule and not of the other, or None."""
    moves, its = machine(one), machine(other)
    seen, its_seen = shows(one, sight), shows(other, sight)
    met = {(FIRST, frozenset([FIRST]))}
    level = {(FIRST, frozenset([FIRST])): []}
    while level:
        further = {}
        for (state, states), boards in level.items():
            for reached in moves[state]:
                fitting = {after for before in states for after in its[before] if its_seen[after] == seen[reached]}
                place = (reached, frozenset(fitting))
                if place not in met:
                    row = boards + [seen[reached]]
                    further[place] = min(further.get(place, row), row)
        missed = [row for (_, states), row in further.items() if not states]
        if missed:
            return min(missed)
        met.update(further)
        level = further
    return None


def least_telling(one, other, sight):
    """Return (board row, owner) or None, as telling_boards tells it."""
    told = [(least_only_of(one, other, sight), 0), (least_only_of(other, one, sight), 1)]
    told = [(len(row), row, owner) for row, owner in told if row is not None]
    return min(told)[1:] if told else None
