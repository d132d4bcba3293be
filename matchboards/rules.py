"""Rallies and rows [1], and rules [2]."""

POINTS = (2, 3, 4)
LEADS = ("one", "two", "cap")
GAMES = (1, 2, 3)
DECIDERS = ("same", "longer")
SERVES = ("games", "twos", "winner", "only")
RALLIES = (0, 1)
LONGEST_ROW = 60


def is_number_of(value, allowed):
    """Return whether a value is one of some integers."""
    # True and False are integers to isinstance, but not to the document.
    return isinstance(value, int) and not isinstance(value, bool) and value in allowed


def is_word_of(value, allowed):
    """Return whether a value is one of some strings."""
    return isinstance(value, str) and value in allowed


def is_rule(value):
    """Return whether a value is a rule: (points, lead, games, decider, serve)."""
    if not isinstance(value, tuple) or len(value) != 5:
        return False
    points, lead, games, decider, serve = value
    return (
        is_number_of(points, POINTS)
        and is_word_of(lead, LEADS)
        and is_number_of(games, GAMES)
        and is_word_of(decider, DECIDERS)
        and is_word_of(serve, SERVES)
    )


def is_rally(value):
    """Return whether a value is a rally: the side that won it."""
    return is_number_of(value, RALLIES)


def is_row(value):
    """Return whether a value is a row: a list of at most 60 rallies."""
    if not isinstance(value, list) or len(value) > LONGEST_ROW:
        return False
    return all([is_rally(rally) for rally in value])


def all_rules():
    """Return the list of all rules, in the order in which [2] names their items."""
    return [
        (points, lead, games, decider, serve)
        for points in POINTS
        for lead in LEADS
        for games in GAMES
        for decider in DECIDERS
        for serve in SERVES
    ]
