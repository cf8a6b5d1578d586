"""What rules lead to: ENDS, the paths to them, and ends in some way."""

from sumroads.doing import end_within
from sumroads.errors import TooMany
from sumroads.orders import MOST_COUNT, check_monomial
from sumroads.ready import fits, made_ready, position_going
from sumroads.rules import check_rules

MOST_STEPS = 2000
MOST_WAYS = 2000


def end_in_counts(readies, monomial):
    """The END; TooMany where a count is too great on the way."""
    end = end_within(readies, monomial, MOST_COUNT)
    if end is None:
        raise TooMany("counts", MOST_COUNT)
    return end


def checked_counts(monomial):
    if max(monomial) > MOST_COUNT:
        raise TooMany("counts", MOST_COUNT)
    return monomial


def end_of(order, rules, monomial):
    check_rules(order, rules)
    check_monomial(order, monomial)
    return end_in_counts(made_ready(rules), monomial)


def path_of(order, rules, monomial):
    check_rules(order, rules)
    check_monomial(order, monomial)
    readies = made_ready(rules)
    path = [monomial]
    at = position_going(readies, monomial)
    while at is not None:
        if len(path) > MOST_STEPS:
            raise TooMany("steps", MOST_STEPS)
        path.append(checked_counts(readies[at].done(path[-1], 1)))
        at = position_going(readies, path[-1])
    return path


def have_one_end(order, rules, one, other):
    check_rules(order, rules)
    check_monomial(order, one)
    check_monomial(order, other)
    readies = made_ready(rules)
    return end_in_counts(readies, one) == end_in_counts(readies, other)


def ends_in_some_way(order, rules, monomial):
    check_rules(order, rules)
    check_monomial(order, monomial)
    readies = made_ready(rules)
    queue = [monomial]
    found = {monomial: True}
    ends = []
    at = 0
    while at < len(queue):
        here = queue[at]
        at += 1
        going = [ready for ready in readies if fits(ready.needs, here)]
        if not going:
            ends.append(here)
        for ready in going:
            led = checked_counts(ready.done(here, 1))
            if led not in found:
                found[led] = True
                queue.append(led)
        if len(queue) > MOST_WAYS:
            raise TooMany("monomials", MOST_WAYS)
    return sorted(ends)
