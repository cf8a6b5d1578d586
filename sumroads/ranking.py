"""Tables of a lot by their numbers; the first, the last and the next one."""

from sumroads.counting import ways_in_bounds
from sumroads.errors import InvalidNumber
from sumroads.filling import first_tables, last_table, table_behind
from sumroads.integers import is_count, put_on
from sumroads.kernels import columns_of, sums_by
from sumroads.lots import check_sums, check_table


def table_at(frame, sums, number):
    check_sums(frame, sums)
    ways = ways_in_bounds(frame, sums)
    if not is_count(number) or number >= ways[0][sums]:
        raise InvalidNumber(number)
    table = ()
    left = sums
    for cell, column in enumerate(columns_of(frame)):
        count = 0
        while number >= ways[cell + 1][left]:
            number = number - ways[cell + 1][left]
            left = put_on(left, -1, column)
            count += 1
        table = table + (count,)
    return table


def number_of(frame, table):
    check_table(frame, table)
    left = sums_by(frame, table)
    ways = ways_in_bounds(frame, left)
    number = 0
    for cell, column in enumerate(columns_of(frame)):
        for _ in range(table[cell]):
            number += ways[cell + 1][left]
            left = put_on(left, -1, column)
    return number


def least_table(frame, sums):
    check_sums(frame, sums)
    return only_one(first_tables(frame, sums, 1))


def greatest_table(frame, sums):
    check_sums(frame, sums)
    return only_one(last_table(frame, sums))


def next_table(frame, table):
    check_table(frame, table)
    return only_one(table_behind(frame, table))


def only_one(tables):
    """The one table of a list, None of an empty list."""
    return tables[0] if tables else None
