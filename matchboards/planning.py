"""Planning rallies by which one of some rules is found [6].

Rules are told by the kinds of the states that they have come to; rules of one kind are alike
from then on, and need not be told apart. Kinds stand in ascending tuples, each just once.
"""


class Plans:
    """With how many rallies just one of some kinds is left, for all kinds that likeness knows."""

    def __init__(self, likeness):
        self.further = likeness.further
        # What has been found out: for some kinds, numbers of rallies that are too few, or enough.
        self.too_few = {}
        self.enough = {}

    def needed(self, kinds):
        """Return the least number of rallies that suffice."""
        rallies = 0
        while not self.suffice(kinds, rallies):
            rallies += 1
        return rallies

    def suffice(self, kinds, rallies):
        """Return whether a rule is found by some plan within so many rallies."""
        if len(kinds) == 1:
            return True
        if rallies <= self.too_few.get(kinds, 0):
            return False
        if kinds in self.enough and rallies >= self.enough[kinds]:
            return True
        if self.pairs_suffice(kinds, rallies):
            for rally in (0, 1):
                if self.can_begin(kinds, rally, rallies):
                    self.enough[kinds] = rallies
                    return True
        self.too_few[kinds] = rallies
        return False

    def pairs_suffice(self, kinds, rallies):
        """Return whether no two of three or more kinds need more rallies."""
        # All kinds together need as many rallies as any two of them; two are searched faster.
        if len(kinds) > 2:
            for at, kind in enumerate(kinds):
                for earlier in kinds[:at]:
                    if not self.suffice((earlier, kind), rallies):
                        return False
        return True

    def can_begin(self, kinds, rally, rallies):
        """Return whether a plan that finds a rule within so many rallies can begin with a rally."""
        for part in self.parts(kinds, rally):
            if not self.suffice(part, rallies - 1):
                return False
        return True

    def parts(self, kinds, rally):
        """Return the list of the kinds behind a rally, parted by the boards that are seen."""
        found = {}
        for kind in kinds:
            board, further = self.further[kind][rally]
            found.setdefault(board, {})[further] = True
        return [tuple(sorted(part)) for part in found.values()]


def plan_for(plans, held):
    """Return the plan for a list of tuples (place of a rule, its kind)."""
    kinds = tuple(sorted({kind for _, kind in held}))
    if len(kinds) == 1:
        return ("left", [place for place, _ in held])
    rallies = plans.needed(kinds)
    side = 0 if plans.can_begin(kinds, 0, rallies) else 1
    parts = {}
    for place, kind in held:
        board, further = plans.further[kind][side]
        parts.setdefault(board, []).append((place, further))
    return ("rally", side, [(board, plan_for(plans, parts[board])) for board in sorted(parts)])
