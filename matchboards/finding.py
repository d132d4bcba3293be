"""Finding a hidden rule of a family by chosen rallies [6]."""

from matchboards.checks import check_family, check_row, check_sight
from matchboards.errors import NotFound
from matchboards.grouping import places_by_mark
from matchboards.likeness import Likeness
from matchboards.moves import row_to_goal
from matchboards.planning import Plans, plan_for
from matchboards.running import boards_of

MOST_RULES = 4


def rallies_needed(family, sight):
    """Return the least number of rallies within which the rule is found, whichever it is."""
    likeness = checked_likeness(family, sight)
    return Plans(likeness).needed(first_kinds(likeness, family))


def finding_plan(family, sight):
    """Return a plan with as few rallies as can be, and so is each plan in it."""
    likeness = checked_likeness(family, sight)
    held = [(place, likeness.first_kind(rule)) for place, rule in enumerate(family)]
    return plan_for(Plans(likeness), held)


def parting_row(family, sight):
    """Return the first of the shortest rows by which all rules that are not alike are parted."""
    likeness = checked_likeness(family, sight)
    kinds = first_kinds(likeness, family)
    row = row_to_goal(
        (kinds,) if len(kinds) > 1 else (),
        lambda mixed: mixed_behind(likeness.further, mixed),
        lambda mixed: mixed == (),
    )
    if row is None:
        raise NotFound("no row parts all rules that are not alike")
    return row


def groups(family, row, sight):
    """Return the ascending list of the groups of places of rules that show the same boards."""
    check_family(family)
    check_row(row)
    check_sight(sight)
    return places_by_mark([tuple(boards_of(rule, row, sight)) for rule in family])


def checked_likeness(family, sight):
    """Return the kinds of the states of a small family, from arguments not checked yet."""
    check_family(family)
    check_sight(sight)
    if len(family) > MOST_RULES:
        raise NotFound("rules are found in families of at most 4 only")
    return Likeness(family, sight)


def first_kinds(likeness, family):
    """Return the ascending tuple of the kinds of the first states."""
    return tuple(sorted({likeness.first_kind(rule) for rule in family}))


def mixed_behind(further, mixed):
    """Return what is left mixed behind a rally of side 0 and one of side 1.

    mixed is an ascending tuple of ascending tuples of kinds, those in one having shown the same
    boards; it is None if some of them cannot be parted any more.
    """
    if mixed is None:
        return (None, None)
    return tuple([mixed_behind_rally(further, mixed, rally) for rally in (0, 1)])


def mixed_behind_rally(further, mixed, rally):
    """Return what is left mixed behind a rally."""
    found = []
    for kinds in mixed:
        parts = {}
        for kind in kinds:
            board, reached = further[kind][rally]
            # Two rules that were not alike have become alike, so no further rally parts them.
            if reached in parts.get(board, []):
                return None
            parts.setdefault(board, []).append(reached)
        found.extend([tuple(sorted(part)) for part in parts.values() if len(part) > 1])
    return tuple(sorted(found))
