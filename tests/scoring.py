"""A second scorer, for comparison, which knows each game by all points made in it.

It never sets points: what a state shows is worked out from the true points of
the game, the serving side from how many rallies the game has had.
"""


class Scorer:
    def __init__(self, rule):
        self.points, self.lead, self.games, self.decider, self.serve = rule
        self.won = []
        self.game = []
        self.game_rallies = 0
        self.last_rally = 0
        self.total = {0: 0, 1: 0}
        self.rallies = 0
        self.end = None

    def winner(self):
        for side in (0, 1):
            if self.won.count(side) == self.games:
                return side
        return None

    def wanted(self):
        near = [side for side in (0, 1) if self.games - self.won.count(side) == 1]
        return self.points + (1 if self.decider == "longer" and near else 0)

    def server(self):
        if self.serve in ("winner", "only"):
            return self.last_rally
        first = len(self.won) & 1
        if self.serve == "games":
            return first
        return first ^ ((self.game_rallies >> 1) & 1)

    def turn(self):
        return self.game_rallies & 1 if self.serve == "twos" else 0

    def play(self, rally):
        self.rallies += 1
        if self.winner() is not None:
            return
        scores = self.serve != "only" or self.server() == rally
        self.last_rally = rally
        self.game_rallies += 1
        if scores:
            self.total[rally] += 1
            self.game.append(rally)
            self.close_game(rally)

    def close_game(self, side):
        mine = self.game.count(side)
        ahead = mine - self.game.count(1 - side)
        enough = {
            "one": mine == self.wanted(),
            "two": mine >= self.wanted() and ahead >= 2,
            "cap": mine >= self.wanted() and (ahead >= 2 or mine == self.wanted() + 1),
        }[self.lead]
        if enough:
            self.won.append(side)
            self.game = []
            self.game_rallies = 0
            if self.winner() is not None:
                self.end = self.rallies

    def shown_points(self):
        zero, one = self.game.count(0), self.game.count(1)
        wanted = self.wanted()
        if self.lead == "two" and min(zero, one) >= wanted - 1:
            return wanted - 1 + (zero > one), wanted - 1 + (one > zero)
        return zero, one

    def state(self):
        # Behind the match there is no game, and so neither points nor a turn.
        zero, one = self.shown_points()
        return (self.server(), zero, one, self.won.count(0), self.won.count(1), self.turn())


def run(rule, row):
    """Return the states along a row, the points made behind each, and the scorer."""
    scorer = Scorer(rule)
    states = [scorer.state()]
    made = [(0, 0)]
    for rally in row:
        scorer.play(rally)
        states.append(scorer.state())
        made.append((scorer.total[0], scorer.total[1]))
    return states, made, scorer


def rows_up_to(length):
    """Return all rows of at most a length, in the order of [1]."""
    rows = [[]]
    layer = [[]]
    for _ in range(length):
        layer = [row + [rally] for row in layer for rally in (0, 1)]
        rows += layer
    return rows


def mixed_rows(many, length, seed):
    """Return rows that look random, the same ones in each run, some leaning to a side."""
    rows = []
    for k in range(many):
        row = []
        for _ in range(length):
            seed = (seed * 6364136223846793005 + 1442695040888963407) & (2 ** 64 - 1)
            row.append(1 if (seed >> 33) & 7 < (4, 3, 5)[k % 3] else 0)
        rows.append(row)
    return rows


def long_rows():
    """Return rows of 60 rallies: long even games, games by turns, and mixed ones."""
    return [
        [0, 1] * 30,
        [1, 0] * 30,
        [0, 1, 1, 0] * 15,
        [0, 0, 1, 1] * 15,
        [1, 1, 0, 0] * 15,
        [0, 0, 0, 1, 1, 1] * 10,
        [0] * 60,
        [1] * 60,
        [0, 1] * 20 + [0] * 20,
        [1, 0] * 13 + [1, 1] + [0, 1] * 16,
    ] + mixed_rows(6, 60, 2026)


def exchanged(row):
    """Return the row in which each rally is the other side's."""
    return [1 - rally for rally in row]
