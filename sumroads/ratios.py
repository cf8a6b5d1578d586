"""RATIOS: tuples (number, under) without a common divisor, under at least 1."""

from math import gcd

from sumroads.integers import is_integer


def is_ratio(value):
    if not isinstance(value, tuple) or len(value) != 2:
        return False
    number, under = value
    if not is_integer(number) or not is_integer(under):
        return False
    return under >= 1 and gcd(number, under) == 1


def ratio(number, under):
    """The RATIO of two INTEGERS, under above 0."""
    common = gcd(number, under)
    return (number // common, under // common)


def ratio_sum(one, other):
    return ratio(one[0] * other[1] + other[0] * one[1], one[1] * other[1])


def ratio_product(one, other):
    return ratio(one[0] * other[0], one[1] * other[1])


def ratio_times(one, many):
    """The RATIO taken as often as an INTEGER tells."""
    return ratio(one[0] * many, one[1])


def ratios_sum(shares, numbers):
    """The sum of all numbers, each taken as often as its RATIO tells."""
    total = (0, 1)
    for part, number in zip(shares, numbers):
        total = ratio_sum(total, ratio_times(part, number))
    return total
