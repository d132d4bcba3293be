"""The checks of arguments, one for each kind; each raises the error of its kind."""

from matchboards.errors import BadBoards, BadNumber, BadRally, BadRule
from matchboards.rules import is_number_of, is_rally, is_row, is_rule
from matchboards.steps import board_of

SIDES = (0, 1)
SIGHTS = (0, 1, 2)
LARGEST_FAMILY = 8
LONGEST_BOARD_ROW = 60
MOST_RECORDS = 12
LONGEST_LENGTH = 60
# The greatest value of each item of a state; the least one is 0.
STATE_LIMITS = (1, 5, 5, 3, 3, 1)


def is_number_up_to(value, limit):
    """Return whether a value is an integer from 0 to a limit."""
    # True and False are integers to isinstance, but not to the document.
    return isinstance(value, int) and not isinstance(value, bool) and 0 <= value <= limit


def is_tuple_up_to(value, limits):
    """Return whether a value is a tuple of integers from 0 to a limit each."""
    if not isinstance(value, tuple) or len(value) != len(limits):
        return False
    return all([is_number_up_to(item, limit) for item, limit in zip(value, limits)])


def is_state(value):
    """Return whether a value has the form of a state, also if no row leads there."""
    return is_tuple_up_to(value, STATE_LIMITS)


def is_board(value, sight):
    """Return whether a value has the form of a board of a sight."""
    limits = board_of(STATE_LIMITS, sight)
    if sight == 1:
        return is_number_up_to(value, limits)
    return is_tuple_up_to(value, limits)


def is_board_row(value, sight):
    """Return whether a value is a board row: a list of at most 60 boards of a sight."""
    if not isinstance(value, list) or len(value) > LONGEST_BOARD_ROW:
        return False
    return all([is_board(board, sight) for board in value])


def sight_of_boards(value):
    """Return the least sight in which a value is a board row, or None."""
    for sight in SIGHTS:
        if is_board_row(value, sight):
            return sight
    return None


def is_record(value, sight):
    """Return whether a value is a record: a tuple of a row and a board row as long."""
    if not isinstance(value, tuple) or len(value) != 2:
        return False
    row, boards = value
    return is_row(row) and is_board_row(boards, sight) and len(row) == len(boards)


def check_rule(value):
    """Raise BadRule if a value is not a rule."""
    if not is_rule(value):
        raise BadRule("not a rule")


def check_family(value):
    """Raise BadRule if a value is not a family."""
    if not isinstance(value, list) or not 1 <= len(value) <= LARGEST_FAMILY:
        raise BadRule("not a list of 1 to 8 rules")
    for rule in value:
        check_rule(rule)


def check_row(value):
    """Raise BadRally if a value is not a row."""
    if not is_row(value):
        raise BadRally("not a list of at most 60 rallies")


def check_rally(value):
    """Raise BadRally if a value is not a rally."""
    if not is_rally(value):
        raise BadRally("not a rally: 0 or 1")


def check_side(value):
    """Raise BadNumber if a value is not a side."""
    if not is_number_of(value, SIDES):
        raise BadNumber("not a side: 0 or 1")


def check_sight(value):
    """Raise BadNumber if a value is not a sight."""
    if not is_number_of(value, SIGHTS):
        raise BadNumber("not a sight: 0, 1 or 2")


def check_length(value):
    """Raise BadNumber if a value is not a length of rows that can be counted."""
    if not is_number_up_to(value, LONGEST_LENGTH):
        raise BadNumber("not a number from 0 to 60")


def check_state(value):
    """Raise BadBoards if a value does not have the form of a state."""
    if not is_state(value):
        raise BadBoards("not a state")


def check_boards(value, sight):
    """Raise BadBoards if a value is not a board row of a sight."""
    if not is_board_row(value, sight):
        raise BadBoards("not a list of at most 60 boards of the sight")


def check_record(value, sight):
    """Raise BadBoards if a value is not a record in a sight."""
    if not is_record(value, sight):
        raise BadBoards("not a row and a board row of as many boards")


def check_records(value, sight):
    """Raise BadBoards if a value is not a list of records in a sight."""
    if not isinstance(value, list) or not 1 <= len(value) <= MOST_RECORDS:
        raise BadBoards("not a list of 1 to 12 records")
    for record in value:
        check_record(record, sight)
