"""The exceptions of the package."""


class MatchError(ValueError):
    """What all errors of the package are."""


class BadRule(MatchError):
    """A rule or a family is not valid."""


class BadRally(MatchError):
    """A row or a rally is not valid."""


class BadBoards(MatchError):
    """A board row, a state, a record or a list of records is not valid."""


class BadNumber(MatchError):
    """A sight, a side or another number is not valid."""


class BadText(MatchError):
    """A text is not one that a format function returns."""


class NotFound(MatchError):
    """There is nothing of the kind that was asked for."""
