"""Reading rules from records: rows of rallies together with the boards that were seen."""

from matchboards.checks import check_family, check_record, check_records, check_rule, check_sight
from matchboards.running import boards_of


def first_bar(rule, sight, record):
    """Return the number of the first rally behind which another board is seen, or None."""
    check_rule(rule)
    check_sight(sight)
    check_record(record, sight)
    return bar_in(rule, sight, record)


def made(rule, sight, record):
    """Return whether a rule shows just the boards of a record."""
    return first_bar(rule, sight, record) is None


def remains(family, sight, records):
    """Return the ascending list of the places of the rules that made all records."""
    return [place for place, bar in enumerate(bars(family, sight, records)) if bar is None]


def bars(family, sight, records):
    """Return for each rule None, or the place of the first record it did not make and the bar there."""
    check_family(family)
    check_sight(sight)
    check_records(records, sight)
    return [first_record_barred(rule, sight, records) for rule in family]


def first_record_barred(rule, sight, records):
    """Return the place of the first record that a rule did not make and the bar there, or None."""
    for place, record in enumerate(records):
        bar = bar_in(rule, sight, record)
        if bar is not None:
            return (place, bar)
    return None


def bar_in(rule, sight, record):
    """Return the first bar in a valid record, or None."""
    row, boards = record
    shown = boards_of(rule, row, sight)
    for rally, board in enumerate(boards):
        if shown[rally] != board:
            return rally
    return None
