"""Searches of the tests' own for hidden rules, over what searching.py says.

They list all that chosen rallies can lead to, and say round by round what is found
within one rally more; rules and states stand by themselves, they are not put together.
"""

from tests.searching import FIRST, machine, shows


class Hunt:
    """All that can be left of a family behind chosen rallies: tuples of (place, state)."""

    def __init__(self, family, sight):
        self.moves = [machine(rule) for rule in family]
        self.seen = [shows(rule, sight) for rule in family]
        self.unlike = {}
        self.start = tuple((place, FIRST) for place in range(len(family)))
        self.parts = {}
        waiting = [self.start]
        while waiting:
            held = waiting.pop()
            if held not in self.parts:
                self.parts[held] = [self.parted(held, rally) for rally in (0, 1)]
                waiting += [part for parts in self.parts[held] for part in parts.values()]
        self.needed = {held: 0 for held in self.parts if self.is_found(held)}
        rallies = 0
        while self.start not in self.needed:
            rallies += 1
            for held in [held for held in self.parts if held not in self.needed and self.beginnings(held, rallies)]:
                self.needed[held] = rallies

    def parted(self, held, rally):
        """Return what is left behind a rally, by the board that is seen."""
        found = {}
        for place, state in held:
            reached = self.moves[place][state][rally]
            found.setdefault(self.seen[place][reached], []).append((place, reached))
        return {board: tuple(part) for board, part in found.items()}

    def is_found(self, held):
        return not any(self.are_unlike(one, other) for one in held for other in held)

    def are_unlike(self, one, other):
        """Return whether some row parts two (place, state); all pairs that are met on the way are known then."""
        met = {(one, other)}
        waiting = [(one, other)]
        while waiting:
            pair = waiting.pop()
            if self.unlike.get(pair) or self.are_parted(pair):
                self.unlike[(one, other)] = True
                return True
            for further in self.pairs_behind(pair):
                if further not in met and self.unlike.get(further) is not False:
                    met.add(further)
                    waiting.append(further)
        self.unlike.update((pair, False) for pair in met)
        return False

    def pairs_behind(self, pair):
        (one, state), (other, its) = pair
        return [((one, self.moves[one][state][rally]), (other, self.moves[other][its][rally])) for rally in (0, 1)]

    def are_parted(self, pair):
        return any(
            self.seen[one][state] != self.seen[other][its]
            for (one, state), (other, its) in self.pairs_behind(pair)
        )

    def beginnings(self, held, rallies):
        """Return the rallies with which a plan of so many rallies can begin, as far as needed is known."""
        return [
            rally for rally in (0, 1)
            if all(self.needed.get(part, rallies) < rallies for part in self.parts[held][rally].values())
        ]

    def plan(self, held):
        """Return the plan of finding_plan for what is left, needed being known for what is met."""
        rallies = self.needed[held]
        if rallies == 0:
            return ("left", [place for place, _ in held])
        side = self.beginnings(held, rallies)[0]
        parts = self.parts[held][side]
        return ("rally", side, [(board, self.plan(parts[board])) for board in sorted(parts)])

    def parting_row(self):
        """Return the first of the shortest rows that part all rules that are not alike, or None."""
        places = range(len(self.start))
        apart = frozenset(
            (one, other) for one in places for other in range(one)
            if self.are_unlike((one, FIRST), (other, FIRST))
        )
        level = {((FIRST,) * len(places), apart): []}
        met = set(level)
        while level:
            done = [row for (_, pairs), row in level.items() if not pairs]
            if done:
                return min(done)
            further = {}
            for (states, pairs), row in level.items():
                for rally in (0, 1):
                    reached = tuple(moves[state][rally] for moves, state in zip(self.moves, states))
                    shown = [seen[state] for seen, state in zip(self.seen, reached)]
                    left = frozenset((one, other) for one, other in pairs if shown[one] == shown[other])
                    if (reached, left) not in met:
                        further[(reached, left)] = min(further.get((reached, left), [2]), row + [rally])
            met.update(further)
            level = further
        return None
