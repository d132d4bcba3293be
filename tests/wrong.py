"""Values that are no rules, no rallies, no rows and no sights."""


class Odd:
    """An object of no kind that the program knows; it cannot be hashed."""

    __hash__ = None


def others():
    """Return values of kinds that are valid nowhere."""
    return [
        None, "", "0", "01", "one", b"", b"\x00", (), {}, {0: 1}, set(), {0, 1}, frozenset(), object(), Odd(),
        int, len, range(2), iter([0, 1]),
    ]


GOOD_RULE = (2, "two", 1, "same", "games")


def rules_with_one_wrong_item():
    """Return tuples of five of which one item is wrong."""
    wrong = [
        [0, 1, 5, -2, 20, True, False, None, "2", "two", (2,), [2], [], {}, Odd()],
        ["", "three", "One", "two ", "same", "games", b"two", 2, 1, None, True, ("two",), ["two"], [], {}, Odd()],
        [0, 4, -1, 10, True, False, None, "1", (1,), [1], [], {}, Odd()],
        ["", "long", "Same", "one", "games", b"same", 0, None, True, ("same",), ["same"], [], {}, Odd()],
        ["", "two", "same", "Only", "game", b"games", 0, None, False, ("games",), ["games"], [], {}, Odd()],
    ]
    rules = []
    for at, items in enumerate(wrong):
        for item in items:
            rules.append(GOOD_RULE[:at] + (item,) + GOOD_RULE[at + 1:])
    return rules


def wrong_rules():
    """Return values that are no rules."""
    return others() + rules_with_one_wrong_item() + [
        0, 1, 2, -1, True, False,
        list(GOOD_RULE), [], [GOOD_RULE], (GOOD_RULE,), (GOOD_RULE,) * 5,
        GOOD_RULE[:4], GOOD_RULE[1:], GOOD_RULE[:1], GOOD_RULE + ("games",), GOOD_RULE + (0,), GOOD_RULE[::-1],
        "2 two 1 same games", dict.fromkeys(GOOD_RULE), (2, 2, 1, 0, 0), (0, 0, 0, 0, 0),
    ]


def wrong_rallies():
    """Return values that are no rallies."""
    return others() + [2, -1, 3, 10 ** 30, -(10 ** 30), True, False, [], [0], (0,), [1], (1,)]


def wrong_rows():
    """Return values that are no rows."""
    rows = others() + [0, 1, -1, 60, True, False, (0,), (0, 1, 1), "011", [0] * 61, [1] * 62, [0, 1] * 50]
    for rally in wrong_rallies():
        rows += [[rally], [0, 1, rally], [rally, 0], [0] * 59 + [rally], [0] * 60 + [rally]]
    return rows


def wrong_sights():
    """Return values that are no sights."""
    return others() + [3, -1, -2, 4, 10 ** 30, True, False, [], [0], (0,), (1,), "1", "2"]


def wrong_sides():
    """Return values that are no sides."""
    return wrong_rallies() + ["1", (0, 1), [0, 1], 60]


def wrong_lengths():
    """Return values that are no lengths of rows."""
    return others() + [-1, 61, -60, 62, 200, 10 ** 30, -(10 ** 30), True, False, [], [0], (0,), (60,), "1", "60"]


def wrong_families():
    """Return values that are no families."""
    good = GOOD_RULE
    families = others() + [
        0, 1, True, False, "2 two 1 same games", good, (good,), (good, good), {good: 1}, {good},
        [], [good] * 9, [good] * 10, [good] * 60, [[good]], [(good,)], [list(good)],
    ]
    for rule in wrong_rules():
        families += [[rule], [good, rule], [rule] + [good] * 7, [good] * 7 + [rule], [good] * 8 + [rule]]
    return families


def tuples_with_one_wrong_item(limits):
    """Return tuples of integers from 0 to a limit each, but for one item that is wrong."""
    tuples = []
    for at, limit in enumerate(limits):
        for item in others() + [-1, limit + 1, -2, limit + 10, 10 ** 30, True, False, [], [0], (0,), "1"]:
            for others_are in (0, 1):
                good = (others_are,) * len(limits)
                tuples.append(good[:at] + (item,) + good[at + 1:])
    return tuples


def tuples_of_wrong_form(many):
    """Return what is like a tuple of integers, but of other length, or not a tuple."""
    return others() + [
        0, 1, -1, True, False, [0] * many, [(0,) * many], [], "0" * many, {0: 0}, ((0,) * many,), ((0,),) * many,
        (0,) * (many - 1), (0,) * (many + 1), (1,) * (2 * many), (0,), ((0, 0), (0, 0)),
    ]


def wrong_states():
    """Return values that do not have the form of a state."""
    return tuples_of_wrong_form(6) + tuples_with_one_wrong_item((1, 5, 5, 3, 3, 1))


def wrong_boards(sight):
    """Return values that are no boards of a sight."""
    if sight == 0:
        return tuples_of_wrong_form(5) + tuples_with_one_wrong_item((1, 5, 5, 3, 3)) + [(0, 0)]
    if sight == 2:
        return tuples_of_wrong_form(2) + tuples_with_one_wrong_item((3, 3)) + [(0, 0, 0, 0, 0)]
    return wrong_rallies() + [(0, 0), (0, 0, 0, 0, 0)]


GOOD_BOARDS = ((0, 1, 0, 0, 0), 0, (0, 0))


def wrong_board_rows(sight):
    """Return values that are no board rows of a sight."""
    good = GOOD_BOARDS[sight]
    rows = others() + [
        0, 1, -1, True, False, (0, 0), (0, 0, 0, 0, 0), (good,), (good, good), "0", [[good]], [[]],
        [good] * 61, [good] * 62, [good] * 200,
    ]
    for board in wrong_boards(sight):
        rows += [[board], [good, board], [board, good], [good] * 59 + [board], [good] * 60 + [board]]
    return rows


def is_board_of_some_sight(value):
    """Return whether a value is a board, whichever the sight is."""
    if type(value) is int:
        return value in (0, 1)
    limits = {2: (3, 3), 5: (1, 5, 5, 3, 3)}
    if type(value) is not tuple or len(value) not in limits:
        return False
    return all(type(item) is int and 0 <= item <= limit for item, limit in zip(value, limits[len(value)]))


def wrong_board_rows_of_all_sights():
    """Return values that are no board rows of one sight, whichever it is."""
    rows = others() + [0, 1, -1, True, False, [[]], [None] * 60]
    for sight, good in enumerate(GOOD_BOARDS):
        rows += [(good,), (good,) * 60, {good: good}, [[good]], [(good,)], [good] * 61, [good] * 200]
        rows += [[good, other] for other in GOOD_BOARDS if other != good]
        rows += [[other] * 59 + [good] for other in GOOD_BOARDS if other != good]
        for board in wrong_boards(sight):
            if not is_board_of_some_sight(board):
                rows += [[board], [good, board], [board, good], [good] * 59 + [board]]
    return rows


def wrong_texts():
    """Return values that are no texts."""
    return [value for value in others() if not isinstance(value, str)] + [
        0, 1, -1, 10, 10 ** 30, True, False, [], [0], ["0"], ("0",), b"0", b"01", b"2 two 1 same games", {"0": "0"},
        GOOD_RULE, ["2", "two", "1", "same", "games"], [(0, 0)],
    ]


def wrong_records(sight):
    """Return values that are no records in a sight."""
    good = GOOD_BOARDS[sight]
    records = others() + [
        0, 1, -1, True, False, (), ([],), ([], [], []), [[], []], [[0], [good]], ([[], []],), "00", [([0], [good])],
        ([0], []), ([], [good]), ([0, 1], [good]), ([0], [good] * 2), ([0] * 60, [good] * 59), ([0] * 59, [good] * 60),
        ([0] * 61, [good] * 61), ([0] * 61, [good] * 60), ([0] * 60, [good] * 61), ((0,), [good]), ([0], (good,)),
        ([good], [0]) if sight != 1 else ([0], [good], 1), {0: [0], 1: [good]},
    ]
    for row in wrong_rows():
        records += [(row, []), (row, [good]), (row, [good] * 3)]
    for boards in wrong_board_rows(sight):
        # As many rallies as boards, so that nothing but the boards is wrong.
        records.append(([0] * len(boards) if isinstance(boards, list) else [], boards))
    return records


def wrong_record_lists(sight):
    """Return values that are no lists of 1 to 12 records in a sight."""
    good = ([0], [GOOD_BOARDS[sight]])
    lists = others() + [
        0, 1, True, False, [], good, (good,), (good, good), {0: good}, [good] * 13, [good] * 14, [good] * 60, [[good]],
        [([], [])] * 13,
    ]
    for record in wrong_records(sight)[::5]:
        lists += [[record], [good, record], [record] + [good] * 11]
    return lists
