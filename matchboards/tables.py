"""A table, at which a match of a rule is played rally by rally."""

from matchboards.checks import check_rally, check_rule, check_sight
from matchboards.errors import BadNumber, NotFound
from matchboards.steps import FIRST_STATE, board_of, next_state

MOST_RALLIES = 200


class Table:
    """Takes rallies one by one, and takes them back."""

    def __init__(self, rule, sight):
        check_rule(rule)
        check_sight(sight)
        self.rule = rule
        self.sight = sight
        self.played = []
        # The first state and those behind each rally.
        self.passed = [FIRST_STATE]

    def play(self, rally):
        """Let a rally be played and return its board."""
        check_rally(rally)
        if len(self.played) == MOST_RALLIES:
            raise BadNumber("at most 200 rallies are played")
        self.played.append(rally)
        self.passed.append(next_state(self.rule, self.passed[-1], rally))
        return board_of(self.passed[-1], self.sight)

    def state(self):
        """Return the state behind all rallies."""
        return self.passed[-1]

    def rallies(self):
        """Return the list of the rallies."""
        return list(self.played)

    def boards(self):
        """Return the list of the boards behind each rally."""
        return [board_of(state, self.sight) for state in self.passed[1:]]

    def undo(self):
        """Take the last rally back and return it."""
        if not self.played:
            raise NotFound("no rally has been played")
        self.passed.pop()
        return self.played.pop()

    def __len__(self):
        """Return the number of the rallies."""
        return len(self.played)
