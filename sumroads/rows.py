"""ROWS of integers: added, taken, multiplied; heads, divisors and shares."""

from math import gcd

from sumroads.errors import InvalidInteger, InvalidRow, UnlikeLengths
from sumroads.integers import are_integers, bezout, first_place, inner, is_integer, put_on

MOST_NUMBERS = 40
MOST_SIZE = 1000000


def is_row(value):
    if not isinstance(value, tuple) or not 1 <= len(value) <= MOST_NUMBERS:
        return False
    return all([is_integer(number) and abs(number) <= MOST_SIZE for number in value])


def check_row(value):
    if not is_row(value):
        raise InvalidRow(value)


def check_two_rows(one, other):
    check_row(one)
    check_row(other)
    if len(one) != len(other):
        raise UnlikeLengths()


def added(one, other):
    check_two_rows(one, other)
    return put_on(one, 1, other)


def taken(row, many):
    check_row(row)
    if not is_integer(many) or abs(many) > MOST_SIZE:
        raise InvalidInteger(many)
    return tuple([number * many for number in row])


def product(one, other):
    check_two_rows(one, other)
    return inner(one, other)


def head(row):
    check_row(row)
    return first_place(row)


def divisor(row):
    check_row(row)
    return divisor_of(row)


def divisor_of(numbers):
    common = 0
    for number in numbers:
        common = gcd(common, number)
    return common


def share(row):
    check_row(row)
    common = 0
    parts = []
    for number in row:
        if common != 0 and number % common == 0:
            # What the divisor so far divides is not needed: so parts stay small.
            parts.append(0)
        else:
            common, before, now = bezout(common, number)
            parts = [part * before for part in parts] + [now]
    return tuple(parts)


def is_share(row, value):
    check_row(row)
    return are_integers(value, len(row)) and inner(row, value) == divisor_of(row)
