"""Pairs of rules to be told apart."""

from matchboards.rules import all_rules


def some_pairs(factor=7, step=13):
    """Return pairs of rules: some taken from everywhere, and those that differ in one item."""
    rules = all_rules()
    pairs = [(rules[k], rules[(k * factor + step * time) % 216]) for k in range(216) for time in range(3)]
    for k, rule in enumerate(rules):
        for other in rules[k + 1:]:
            if len([item for item, its in zip(rule, other) if item != its]) == 1:
                pairs.append((rule, other))
    return pairs
