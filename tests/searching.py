"""Searches of the tests' own, over what the second scorer of scoring.py says.

They go about it otherwise than the package does: by comparing all rows of a
length, by counting from the last rally back, and by parting states in rounds.
"""

import copy
import functools

from tests.scoring import Scorer, run


def scorer_after(scorer, rally):
    """Return a scorer that has seen one rally more."""
    later = copy.copy(scorer)
    later.won = list(scorer.won)
    later.game = list(scorer.game)
    later.total = dict(scorer.total)
    later.play(rally)
    return later


@functools.lru_cache(maxsize=None)
def machine(rule):
    """Return for each state that comes the pair of the states behind a rally."""
    found = {}
    waiting = [Scorer(rule)]
    while waiting:
        scorer = waiting.pop()
        if scorer.state() not in found:
            later = [scorer_after(scorer, rally) for rally in (0, 1)]
            found[scorer.state()] = (later[0].state(), later[1].state())
            waiting += later
    return found


FIRST = (0, 0, 0, 0, 0, 0)


def seen_of(state, sight):
    """Return the board of a state."""
    return (state[:5], state[0], state[3:5])[sight]


@functools.lru_cache(maxsize=None)
def shows(rule, sight):
    """Return a dict: what is seen of each state; in the sight "winner" who has won."""
    if sight != "winner":
        return {state: seen_of(state, sight) for state in machine(rule)}
    seen = {}
    for state in machine(rule):
        seen[state] = 0 if state[3] == rule[2] else 1 if state[4] == rule[2] else None
    return seen


def least_rows(rule):
    """Return for each state that comes the least of the shortest rows there, length by length."""
    moves = machine(rule)
    least = {FIRST: []}
    level = {FIRST: [[]]}
    while level:
        further = {}
        for state, rows in level.items():
            for row in rows:
                for rally in (0, 1):
                    reached = moves[state][rally]
                    if reached not in least:
                        further.setdefault(reached, []).append(row + [rally])
        for state, rows in further.items():
            least[state] = min(rows)
        # A row that is not the least one to its state does not begin a least one.
        level = {state: [least[state]] for state in further}
    return least


def parting_length(one, other, sight):
    """Return the length of the shortest rows that part two rules, or None, by rounds over all states."""
    places = [(0, state) for state in machine(one)] + [(1, state) for state in machine(other)]
    moves = (machine(one), machine(other))
    seen = (shows(one, sight), shows(other, sight))
    part = {place: (seen[place[0]][place[1]],) for place in places}
    length = 0
    while True:
        if part[(0, FIRST)] != part[(1, FIRST)]:
            return length
        told = {}
        for which, state in places:
            behind = moves[which][state]
            told[(which, state)] = (part[(which, state)], part[(which, behind[0])], part[(which, behind[1])])
        numbers = {}
        for place in places:
            numbers.setdefault(told[place], len(numbers))
        if len(numbers) == len(set(part.values())):
            return None
        part = {place: numbers[told[place]] for place in places}
        length += 1


def first_parting_row(one, other, sight, length):
    """Return the first row of a length behind which two rules are seen to differ, all tried in order."""
    moves = (machine(one), machine(other))
    seen = (shows(one, sight), shows(other, sight))

    def tried(left, right, row):
        if len(row) == length:
            return row if seen[0][left] != seen[1][right] else None
        for rally in (0, 1):
            found = tried(moves[0][left][rally], moves[1][right][rally], row + [rally])
            if found is not None:
                return found
        return None

    return tried(FIRST, FIRST, [])


def seen_row(rule, row, sight):
    """Return what is seen behind each rally of a row, by the second scorer itself."""
    states, _, scorer = run(rule, row)
    if sight == "winner":
        return [run(rule, row[:end])[2].winner() for end in range(1, len(row) + 1)]
    return [seen_of(state, sight) for state in states[1:]]


def changed(boards, at, sight):
    """Return the boards with another valid one at a place."""
    other = list(boards)
    if sight == 1:
        other[at] = 1 - boards[at]
    elif sight == 2:
        other[at] = (boards[at][0], (boards[at][1] + 1) & 3)
    elif at & 1:
        other[at] = (1 - boards[at][0],) + boards[at][1:]
    else:
        other[at] = boards[at][:2] + ((boards[at][2] + 1 + at % 5) % 6,) + boards[at][3:]
    return other


def rows_that_show(rule, sight, boards):
    """Return (how many, the first one or None, the states behind), counted from the last board back."""
    moves, seen = machine(rule), shows(rule, sight)
    ways = [None] * len(boards) + [{state: 1 for state in moves}]
    for at in range(len(boards) - 1, -1, -1):
        ways[at] = {}
        for state, behind in moves.items():
            fitting = [reached for reached in behind if seen[reached] == boards[at]]
            ways[at][state] = sum(ways[at + 1][reached] for reached in fitting)
    if ways[0][FIRST] == 0:
        return 0, None, []
    row, state = [], FIRST
    for at, board in enumerate(boards):
        fitting = [
            rally for rally in (0, 1)
            if seen[moves[state][rally]] == board and ways[at + 1][moves[state][rally]] > 0
        ]
        row.append(fitting[0])
        state = moves[state][fitting[0]]
    return ways[0][FIRST], row, states_that_fit(moves, sight, boards)


def states_that_fit(moves, sight, boards):
    """Return the ascending list of the states that rows with these boards lead to."""
    level = {FIRST}
    for board in boards:
        reached = {state for before in level for state in moves[before]}
        level = {state for state in reached if seen_of(state, sight) == board}
    return sorted(level)
