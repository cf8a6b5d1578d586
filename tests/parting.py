"""What is within a change, found by trying all, for the tests alone."""

import itertools

from tests.helpers import sums_plainly


def within_plainly(row, other):
    return all(a == 0 or (a > 0 and b >= a) or (a < 0 and b <= a) for a, b in zip(row, other))


def changes_within_plainly(frame, change):
    ranges = [range(min(number, 0), max(number, 0) + 1) for number in change]
    nought = (0,) * len(frame[1])
    return [part for part in itertools.product(*ranges) if sums_plainly(frame, part) == nought]


def is_unparted_plainly(frame, change):
    return any(change) and len(changes_within_plainly(frame, change)) == 2


def is_parted_sum_plainly(frame, change, value):
    parts = list(value)
    if not all(within_plainly(part, change) and is_unparted_plainly(frame, part) for part in parts):
        return False
    return tuple(sum(part[cell] for part in parts) for cell in range(len(change))) == tuple(change)


def unparted_plainly(frame, most):
    """All unparted moves with no number above most in size."""
    cells = len(frame[1][0])
    found = []
    for row in itertools.product(range(-most, most + 1), repeat=cells):
        if row > (0,) * cells and not any(sums_plainly(frame, row)) and is_unparted_plainly(frame, row):
            found.append(row)
    return found


def led_down(change, known):
    """What is left of a change when known ones within what is left are taken away."""
    going_on = True
    while going_on and any(change):
        going_on = False
        for part in known:
            if within_plainly(part, change):
                change = tuple(a - b for a, b in zip(change, part))
                going_on = True
                break
    return change


def unparted_by_sums(rows, most):
    """All unparted moves of the whole sums of some rows, however great: each sum of two that are known, led down.

    None if more changes than so many are known on the way.
    """
    known = []
    sums = [tuple(sign * number for number in row) for row in rows for sign in (1, -1)]
    while sums:
        sums.sort(key=lambda change: -sum(abs(number) for number in change))
        left = led_down(sums.pop(), known)
        if any(left):
            for one in (left, tuple(-number for number in left)):
                sums.extend(tuple(a + b for a, b in zip(one, part)) for part in known if any(a * b < 0 for a, b in zip(one, part)))
                known.append(one)
        if len(known) > most:
            return None
    found = [one for one in known if not any(part != one and within_plainly(part, one) for part in known)]
    return sorted(one for one in found if one > (0,) * len(one))
