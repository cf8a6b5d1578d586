"""Weights, steps, matrices and shares in fractions, by the words of the document, for the tests alone."""

import math
from fractions import Fraction

from tests.helpers import lot_plainly


def weight_plainly(kind, table):
    if kind == "even":
        return 1
    weight = math.factorial(sum(table))
    for count in table:
        weight //= math.factorial(count)
    return weight


def ratio_of(number):
    number = Fraction(number)
    return (number.numerator, number.denominator)


def fraction_of(ratio):
    return Fraction(*ratio)


def chance_plainly(kind, table, other):
    return min(Fraction(1), Fraction(weight_plainly(kind, other), weight_plainly(kind, table)))


def ways_plainly(book, table):
    """What each way leads to, None where that is no table."""
    found = []
    for move in book:
        for sign in (1, -1):
            other = tuple(count + sign * number for count, number in zip(table, move))
            found.append(other if min(other) >= 0 else None)
    return found


def step_plainly(book, table, draw, kind):
    way, b, c = draw
    other = ways_plainly(book, table)[way]
    if other is not None and b * weight_plainly(kind, table) < c * weight_plainly(kind, other):
        return other
    return table


def matrix_plainly(frame, book, sums, kind):
    """Rows of fractions: all ways alike likely, each with its chance."""
    tables = lot_plainly(frame, sums)
    rows = []
    for table in tables:
        row = [Fraction(0)] * len(tables)
        for other in ways_plainly(book, table):
            if other is not None:
                row[tables.index(other)] += chance_plainly(kind, table, other) / (2 * len(book))
        row[tables.index(table)] += 1 - sum(row)
        rows.append(row)
    return rows


def behind_plainly(rows, shares):
    return [sum(share * row[at] for share, row in zip(shares, rows)) for at in range(len(shares))]
