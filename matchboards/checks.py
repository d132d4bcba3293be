"""The checks of arguments, one for each kind; each raises the error of its kind."""

from matchboards.errors import BadNumber, BadRally, BadRule
from matchboards.rules import is_number_of, is_row, is_rule

SIGHTS = (0, 1, 2)


def check_rule(value):
    """Raise BadRule if a value is not a rule."""
    if not is_rule(value):
        raise BadRule("not a rule")


def check_row(value):
    """Raise BadRally if a value is not a row."""
    if not is_row(value):
        raise BadRally("not a list of at most 60 rallies")


def check_sight(value):
    """Raise BadNumber if a value is not a sight."""
    if not is_number_of(value, SIGHTS):
        raise BadNumber("not a sight: 0, 1 or 2")
