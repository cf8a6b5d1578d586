"""The END of a monomial: always the first rule in sequence that goes by it is done."""

from sumroads.ready import position_going


def end_within(readies, monomial, most):
    """The END, None as soon as a count above most is met; most may be None."""
    at = position_going(readies, monomial)
    while at is not None:
        monomial = readies[at].done(monomial, times_in_row(readies, at, monomial))
        if most is not None and max(monomial) > most:
            return None
        at = position_going(readies, monomial)
    return monomial


def times_in_row(readies, at, monomial):
    """How often the rule at a position, the first one that goes, is done before another one.

    Counts rise or fall all along, so none above a bound is passed over unseen.
    """
    change = readies[at].change
    falls = [(letter, count, -change[letter]) for letter, count in readies[at].needs if change[letter] < 0]
    times = 1 + min([(monomial[letter] - count) // by for letter, count, by in falls])
    for ready in readies[:at]:
        if times == 1:
            break
        first = first_time(ready.needs, monomial, change)
        if first is not None:
            times = min(times, first)
    return times


def first_time(needs, monomial, change):
    """Behind how many doings of the change a rule with these needs goes first, None if never."""
    first, last = 0, None
    for letter, count in needs:
        lack, by = count - monomial[letter], change[letter]
        if lack > 0 and by <= 0:
            return None
        if lack > 0:
            first = max(first, -(-lack // by))
        elif by < 0:
            until = -lack // -by
            last = until if last is None else min(last, until)
    if last is not None and last < first:
        return None
    return first
