"""Completion of rules."""

from sumroads.completing import reduced_rules
from sumroads.rules import check_rules


def completed(order, rules):
    check_rules(order, rules)
    # The reduced rules are complete, and told by the rules alone, so no others are needed.
    return reduced_rules(order, rules)
