"""Rules, rows and board rows as texts."""

from matchboards.checks import check_row, check_rule, sight_of_boards
from matchboards.errors import BadBoards, BadText
from matchboards.rules import all_rules, is_row

# All numbers in texts of rows and boards have one digit.
DIGITS = "012345"


def format_rule(rule):
    """Return the items of a rule, separated by single spaces."""
    check_rule(rule)
    return " ".join([str(item) for item in rule])


def format_row(row):
    """Return the rallies of a row, one behind the other."""
    check_row(row)
    return "".join([str(rally) for rally in row])


def format_boards(boards):
    """Return the boards of one sight, separated by single spaces."""
    sight = sight_of_boards(boards)
    if sight is None:
        raise BadBoards("not a list of at most 60 boards of one sight")
    return " ".join([format_board(board, sight) for board in boards])


def format_board(board, sight):
    """Return the text of one board."""
    if sight == 0:
        return f"{board[0]}:{board[1]}-{board[2]},{board[3]}-{board[4]}"
    if sight == 1:
        return str(board)
    return f"{board[0]}-{board[1]}"


def parse_rule(text):
    """Return the rule that a text tells."""
    check_text(text)
    for rule in all_rules():
        if format_rule(rule) == text:
            return rule
    raise BadText("not the text of a rule")


def parse_row(text):
    """Return the row that a text tells."""
    check_text(text)
    row = numbers_in(text)
    # What is told by digits alone is right if just this text is made of it.
    if not is_row(row) or format_row(row) != text:
        raise BadText("not the text of a row")
    return row


def parse_boards(text):
    """Return the board row that a text tells."""
    check_text(text)
    words = text.split(" ") if text else []
    boards = [board_told(word) for word in words]
    if sight_of_boards(boards) is None or format_boards(boards) != text:
        raise BadText("not the text of a board row")
    return boards


def board_told(word):
    """Return what the digits of a word tell, a board if the word is the text of one."""
    numbers = numbers_in(word)
    return numbers[0] if len(numbers) == 1 else tuple(numbers)


def numbers_in(text):
    """Return the list of the digits of a text that can stand in texts of rows and boards."""
    return [DIGITS.find(mark) for mark in text if mark in DIGITS]


def check_text(value):
    """Raise BadText if a value is not a string."""
    if not isinstance(value, str):
        raise BadText("not a string")
