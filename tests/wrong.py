"""Values that are no rules, no rallies, no rows and no sights."""


class Odd:
    """An object of no kind that the program knows; it cannot be hashed."""

    __hash__ = None


def others():
    """Return values of kinds that are valid nowhere."""
    return [
        None, "", "0", "01", "one", b"", b"\x00", (), {}, {0: 1}, set(), {0, 1}, frozenset(), object(), Odd(),
        int, len, range(2), iter([0, 1]),
    ]


GOOD_RULE = (2, "two", 1, "same", "games")


def rules_with_one_wrong_item():
    """Return tuples of five of which one item is wrong."""
    wrong = [
        [0, 1, 5, -2, 20, True, False, None, "2", "two", (2,), [2], [], {}, Odd()],
        ["", "three", "One", "two ", "same", "games", b"two", 2, 1, None, True, ("two",), ["two"], [], {}, Odd()],
        [0, 4, -1, 10, True, False, None, "1", (1,), [1], [], {}, Odd()],
        ["", "long", "Same", "one", "games", b"same", 0, None, True, ("same",), ["same"], [], {}, Odd()],
        ["", "two", "same", "Only", "game", b"games", 0, None, False, ("games",), ["games"], [], {}, Odd()],
    ]
    rules = []
    for at, items in enumerate(wrong):
        for item in items:
            rules.append(GOOD_RULE[:at] + (item,) + GOOD_RULE[at + 1:])
    return rules


def wrong_rules():
    """Return values that are no rules."""
    return others() + rules_with_one_wrong_item() + [
        0, 1, 2, -1, True, False,
        list(GOOD_RULE), [], [GOOD_RULE], (GOOD_RULE,), (GOOD_RULE,) * 5,
        GOOD_RULE[:4], GOOD_RULE[1:], GOOD_RULE[:1], GOOD_RULE + ("games",), GOOD_RULE + (0,), GOOD_RULE[::-1],
        "2 two 1 same games", dict.fromkeys(GOOD_RULE), (2, 2, 1, 0, 0), (0, 0, 0, 0, 0),
    ]


def wrong_rallies():
    """Return values that are no rallies."""
    return others() + [2, -1, 3, 10 ** 30, -(10 ** 30), True, False, [], [0], (0,), [1], (1,)]


def wrong_rows():
    """Return values that are no rows."""
    rows = others() + [0, 1, -1, 60, True, False, (0,), (0, 1, 1), "011", [0] * 61, [1] * 62, [0, 1] * 50]
    for rally in wrong_rallies():
        rows += [[rally], [0, 1, rally], [rally, 0], [0] * 59 + [rally], [0] * 60 + [rally]]
    return rows


def wrong_sights():
    """Return values that are no sights."""
    return others() + [3, -1, -2, 4, 10 ** 30, True, False, [], [0], (0,), (1,), "1", "2"]
