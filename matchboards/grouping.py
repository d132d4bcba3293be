"""Putting together what has the same mark."""


def places_by_mark(marks):
    """Return the ascending list of the groups (ascending lists) of the places of equal marks."""
    groups = {}
    # A dict keeps the order of its keys, so the groups stand by their first places.
    for place, mark in enumerate(marks):
        groups.setdefault(mark, []).append(place)
    return list(groups.values())
