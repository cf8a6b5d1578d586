"""Lots counted without listing them, and all sums of a told total."""

from sumroads.errors import InvalidPosition, InvalidTotal, TooMany
from sumroads.integers import is_count_to, put_on
from sumroads.kernels import cells_of, check_frame, columns_of
from sumroads.lots import check_sums
from sumroads.states import check_states, ways_of

MOST_TOTAL = 20
MOST_SUMS = 2000


def check_cell(frame, value):
    if not is_count_to(value, cells_of(frame) - 1):
        raise InvalidPosition(value)


def ways_in_bounds(frame, sums):
    """The ways on from each state; TooMany if there are too many states."""
    columns = columns_of(frame)
    check_states(columns, sums)
    return ways_of(columns, sums)


def lot_count(frame, sums):
    check_sums(frame, sums)
    return ways_in_bounds(frame, sums)[0][sums]


def cell_counts(frame, sums, position):
    check_sums(frame, sums)
    check_cell(frame, position)
    columns = columns_of(frame)
    check_states(columns, sums)
    # With the cell taken first the states behind it tell its counts.
    cell = columns[position]
    ways = ways_of([cell] + columns[:position] + columns[position + 1:], sums)[1]
    found = []
    count = 0
    left = sums
    while left in ways:
        if ways[left] > 0:
            found.append((count, ways[left]))
        count += 1
        left = put_on(left, -1, cell)
    return found


def sums_of_total(frame, total):
    check_frame(frame)
    if not is_count_to(total, MOST_TOTAL):
        raise InvalidTotal(total)
    columns = columns_of(frame)
    found = {tuple([0] * len(frame[1])): True}
    for _ in range(total):
        found = {put_on(sums, 1, column): True for sums in found for column in columns}
        # With one thing more there are never less sums.
        if len(found) > MOST_SUMS:
            raise TooMany("sums", MOST_SUMS)
    return sorted(found)
