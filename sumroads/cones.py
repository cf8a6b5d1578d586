"""Fences of cones: rows whose product with all sums of some columns is not below 0.

They tell, without any search, of most sums that no table has them.
"""

from math import gcd

from sumroads.integers import inner, put_on


def lowest_terms(row):
    common = 0
    for number in row:
        common = gcd(common, number)
    if common <= 1:
        return row
    return tuple([number // common for number in row])


def levelled(row, line, column):
    """The row with so much of the line put on, in whole numbers, that its product is 0."""
    by_line, by_row = inner(line, column), inner(row, column)
    nought = tuple([0] * len(row))
    return lowest_terms(put_on(put_on(nought, by_line, row), -by_row, line))


def fences_behind(columns, length):
    """A list with the fences of the columns from position k on, for each k, and of none.

    Fences are the least rows that span all such rows, with the lines, which are 0 at
    all columns. A fence is a tuple (row, marks): marks has a bit for each column of
    those taken so far at which the row's product is 0.
    """
    lines = [tuple([int(at == place) for at in range(length)]) for place in range(length)]
    fences = []
    told = [[]]
    for many, column in enumerate(columns[::-1]):
        lines, fences = with_column(lines, fences, column, many)
        told.append([row for row, _ in fences])
    return told[::-1]


def with_column(lines, fences, column, many):
    """Lines and fences, when a column is taken behind so many other ones."""
    bit = 1 << many
    across = [line for line in lines if inner(line, column) != 0]
    if not across:
        return lines, narrowed(fences, column, bit)
    line = across[0]
    if inner(line, column) < 0:
        line = tuple([-number for number in line])
    others = [levelled(other, line, column) for other in lines if other != across[0]]
    fences = [(levelled(row, line, column), marks | bit) for row, marks in fences]
    return others, fences + [(line, bit - 1)]


def narrowed(fences, column, bit):
    """The fences by which a column lies right, and those between two of either side."""
    above, at, below = [], [], []
    for row, marks in fences:
        side = inner(row, column)
        if side > 0:
            above.append((row, marks))
        elif side < 0:
            below.append((row, marks))
        else:
            at.append((row, marks | bit))
    between = []
    for row, marks in above:
        for other, others in below:
            if are_beside(marks & others, fences):
                far = tuple([-number for number in other])
                between.append((levelled(row, far, column), (marks & others) | bit))
    return above + at + between


def are_beside(common, fences):
    """Whether just two fences are 0 at all columns at which both of these are."""
    found = 0
    for _, marks in fences:
        if marks & common == common:
            found += 1
            if found > 2:
                return False
    return True
