"""What one rally does to a state [3], and what is seen of a state [4].

The arguments of these functions are valid ones: who calls them has checked them.
"""

FIRST_STATE = (0, 0, 0, 0, 0, 0)


def match_winner(rule, state):
    """Return the side that has won the match, or None."""
    for side in (0, 1):
        if state[3 + side] == rule[2]:
            return side
    return None


def point_maker(rule, state, rally):
    """Return the side that makes a point by a rally, or None."""
    if match_winner(rule, state) is not None:
        return None
    if rule[4] == "only" and rally != state[0]:
        return None
    return rally


def next_state(rule, state, rally):
    """Return the state behind a rally."""
    if match_winner(rule, state) is not None:
        return state
    points = [state[1], state[2]]
    games = [state[3], state[4]]
    wanted = wanted_points(rule, games)
    maker = point_maker(rule, state, rally)
    if maker is not None:
        points[maker] += 1
    won = maker is not None and is_game_won(rule[1], wanted, points[maker], points[1 - maker])
    if won:
        games[maker] += 1
        points = [0, 0]
    elif rule[1] == "two":
        points = points_set_anew(wanted, points)
    serving, turn = next_serving(rule[4], state, rally, games, won)
    return (serving, points[0], points[1], games[0], games[1], turn)


def wanted_points(rule, games):
    """Return the points that win a game which begins with these games of the sides."""
    # With 1-0 of two games the next game can be the last one, so it is a longer one, too.
    if rule[3] == "longer" and rule[2] - 1 in games:
        return rule[0] + 1
    return rule[0]


def is_game_won(lead, wanted, own, other):
    """Return whether a side that just made a point has won the game."""
    if lead == "one":
        return own >= wanted
    if own >= wanted and own - other >= 2:
        return True
    return lead == "cap" and own > wanted


def points_set_anew(wanted, points):
    """Return the points as lead "two" sets them while a game goes on."""
    low = wanted - 1
    if min(points) < low:
        return points
    if points[0] == points[1]:
        return [low, low]
    if points[0] > points[1]:
        return [wanted, low]
    return [low, wanted]


def next_serving(serve, state, rally, games, won):
    """Return the serving side and the turn behind a rally, the games being those behind it."""
    if serve in ("winner", "only"):
        return rally, 0
    if serve == "games" or won:
        return sum(games) % 2, 0
    if state[5] == 0:
        return state[0], 1
    return 1 - state[0], 0


def states_from(rule, state, row):
    """Return the list of a state and of those behind each rally of a row that follows it."""
    states = [state]
    for rally in row:
        states.append(next_state(rule, states[-1], rally))
    return states


def board_of(state, sight):
    """Return the board that is seen of a state in a sight."""
    if sight == 0:
        return state[:5]
    if sight == 1:
        return state[0]
    return state[3:5]
