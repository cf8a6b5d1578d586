"""KINDS of weights, and what tables weigh."""

from math import factorial

from sumroads.errors import InvalidKind, TooMany
from sumroads.ratios import ratio

KINDS = ("even", "ways")
MOST_WEIGHED = 120


def check_kind(value):
    if not isinstance(value, str) or value not in KINDS:
        raise InvalidKind(value)


def check_totals(kind, tables):
    """TooMany if a table has too great a total for ways to be told."""
    if kind == "ways" and any([sum(table) > MOST_WEIGHED for table in tables]):
        raise TooMany("total", MOST_WEIGHED)


def weight_by(kind, table):
    """The weight, the total being known to be small enough."""
    if kind == "even":
        return 1
    weight = factorial(sum(table))
    for count in table:
        weight = weight // factorial(count)
    return weight


def weights_of(kind, tables):
    """The weights of all tables; TooMany by their totals."""
    check_totals(kind, tables)
    return [weight_by(kind, table) for table in tables]


def chance_by(here, there):
    """The RATIO with which it goes from a table of the one weight to one of the other."""
    return ratio(min(here, there), here)
