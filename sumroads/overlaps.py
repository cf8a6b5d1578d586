"""OVERLAPS of rules; whether rules are complete."""

from sumroads.doing import end_within
from sumroads.errors import TooMany
from sumroads.orders import MOST_COUNT
from sumroads.ready import greater_counts, made_ready
from sumroads.rules import check_rules


def overlaps_of(readies):
    """The tuples (position, further position, monomial, both results), whatever their counts."""
    found = []
    for further, other in enumerate(readies):
        for at, one in enumerate(readies[:further]):
            if one.bits & other.bits != 0:
                monomial = greater_counts(one.ahead, other.ahead)
                found.append((at, further, monomial, one.done(monomial, 1), other.done(monomial, 1)))
    return sorted(found)


def overlaps(order, rules):
    check_rules(order, rules)
    found = overlaps_of(made_ready(rules))
    for overlap in found:
        if max(overlap[3]) > MOST_COUNT or max(overlap[4]) > MOST_COUNT:
            raise TooMany("counts", MOST_COUNT)
    return found


def is_closed_up(readies, most):
    """Whether each overlap has one end; False, too, where a count above most is met.

    most may be None, then nothing is met.
    """
    for _, _, _, one, other in overlaps_of(readies):
        if most is not None and max(max(one), max(other)) > most:
            return False
        end = end_within(readies, one, most)
        if end is None or end != end_within(readies, other, most):
            return False
    return True


def is_complete(order, rules):
    check_rules(order, rules)
    return is_closed_up(made_ready(rules), None)
