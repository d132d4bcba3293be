"""Checks of a function's arguments and returned lists that are alike for all functions."""

import copy

from matchboards.errors import BadBoards, BadNumber, BadRally, BadRule, BadText, NotFound
from tests import wrong

# What a kind of argument is: its error, and its wrong values in a sight.
KINDS = {
    "rule": (BadRule, lambda sight: wrong.wrong_rules()),
    "family": (BadRule, lambda sight: wrong.wrong_families()),
    "rally": (BadRally, lambda sight: wrong.wrong_rallies()),
    "row": (BadRally, lambda sight: wrong.wrong_rows()),
    "sight": (BadNumber, lambda sight: wrong.wrong_sights()),
    "side": (BadNumber, lambda sight: wrong.wrong_sides()),
    "length": (BadNumber, lambda sight: wrong.wrong_lengths()),
    "state": (BadBoards, lambda sight: wrong.wrong_states()),
    "boards": (BadBoards, wrong.wrong_board_rows),
    "boards of some sight": (BadBoards, lambda sight: wrong.wrong_board_rows_of_all_sights()),
    "record": (BadBoards, wrong.wrong_records),
    "records": (BadBoards, wrong.wrong_record_lists),
    "text": (BadText, lambda sight: wrong.wrong_texts()),
}
# A few values that no argument may be, for the arguments behind the first wrong one.
ALWAYS_WRONG = (None, True, "0", {}, wrong.Odd())


def assert_raises_just(case, kind, function, arguments):
    with case.assertRaises(kind, msg=repr(arguments)) as caught:
        function(*arguments)
    case.assertIs(type(caught.exception), kind, repr(arguments))


def check_wrong_arguments(case, function, kinds, goods, sight):
    """Check that each wrong argument raises its error, whatever the arguments behind it are."""
    for at, name in enumerate(kinds):
        error, wrong_values = KINDS[name]
        for value in wrong_values(sight):
            behind = goods[at + 1:]
            assert_raises_just(case, error, function, goods[:at] + (value,) + behind)
        for value in wrong_values(sight)[::7]:
            for other in ALWAYS_WRONG:
                for many in range(1, len(behind) + 1):
                    later = (other,) * many + behind[many:]
                    assert_raises_just(case, error, function, goods[:at] + (value,) + later)
                    later = behind[:-many] + (other,) * many
                    assert_raises_just(case, error, function, goods[:at] + (value,) + later)


def emptied(value):
    """Empty all lists in a value."""
    if isinstance(value, (list, tuple)):
        for item in value:
            emptied(item)
    if isinstance(value, list):
        value.clear()


def answer(function, arguments):
    try:
        return function(*arguments)
    except NotFound:
        return NotFound


def check_call(case, function, arguments):
    """Check that a call does not change its arguments, and that what it returns is new each time."""
    before = copy.deepcopy(arguments)
    first = answer(function, arguments)
    case.assertEqual(arguments, before)
    expected = copy.deepcopy(first)
    emptied(first)
    case.assertEqual(arguments, before)
    case.assertEqual(answer(function, arguments), expected)
    case.assertEqual(answer(function, before), expected)
