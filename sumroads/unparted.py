"""UNPARTED changes, and changes as sums of such within them."""

from sumroads.conformal import check_small_change
from sumroads.errors import InvalidMany, TooMany
from sumroads.integers import first_place, is_count_to, is_listed, put_on
from sumroads.kernels import cells_of, check_frame, is_change_by
from sumroads.moves import check_move
from sumroads.parting import unparted_changes
from sumroads.within import Within, lies_within, total_size

MOST_PLAIN = 9
MOST_ROWS_TRIED = 20000


def moves_among(changes):
    """Those whose first number that is not 0 is above 0, sorted."""
    return sorted([change for change in changes if change[first_place(change)] > 0])


def unparted(frame):
    return moves_among(unparted_changes(frame))


def rows_to_try(cells, many):
    """All rows of so many cells with no number above many in size; TooMany if they are too many."""
    rows = [()]
    numbers = list(range(-many, many + 1))
    for _ in range(cells):
        if len(rows) * len(numbers) > MOST_ROWS_TRIED:
            raise TooMany("rows", MOST_ROWS_TRIED)
        rows = [row + (number,) for row in rows for number in numbers]
    return rows


def plain_unparted(frame, many):
    check_frame(frame)
    if not is_count_to(many, MOST_PLAIN) or many < 1:
        raise InvalidMany(many)
    changes = [row for row in rows_to_try(cells_of(frame), many) if any(row) and is_change_by(frame, row)]
    found = []
    # What is within a change and not itself is of lesser size: so it comes ahead.
    for _, change in sorted([(total_size(change), change) for change in changes]):
        if not any([lies_within(part, change) for part in found]):
            found.append(change)
    return moves_among(found)


def is_unparted(frame, move):
    check_move(frame, move)
    return Within(frame).is_unparted(move)


def parted_sum(frame, change):
    check_small_change(frame, change)
    return Within(frame).parts_of(change)


def is_parted_sum(frame, change, value):
    check_small_change(frame, change)
    if not is_listed(value) or not all([is_change_by(frame, part) for part in value]):
        return False
    if not all([lies_within(part, change) for part in value]):
        return False
    left = change
    for part in value:
        left = put_on(left, -1, part)
    if any(left):
        return False
    finder = Within(frame)
    return all([finder.is_unparted(part) for part in {part: True for part in value}])
