"""Stepped rows of rows of any length and size, made by putting in one row at a time."""

from sumroads.integers import bezout, first_place, put_on


def lowered(row, kept, start):
    """The row with its numbers at the heads of the kept rows from start on made least."""
    for below in kept[start:]:
        at = first_place(below)
        times = row[at] // below[at]
        if times != 0:
            row = put_on(row, -times, below)
    return row


def tidy(kept):
    """Makes the numbers above all heads least, which keeps all numbers small."""
    for at in reversed(range(len(kept))):
        kept[at] = lowered(kept[at], kept, at + 1)


def merged(upper, row, at):
    """Two rows of one head, led to one with the common divisor there and one with 0."""
    divisor, for_upper, for_row = bezout(upper[at], row[at])
    if divisor == upper[at]:
        # The kept row stays as it is, so that no numbers grow without need.
        return upper, put_on(row, -(row[at] // divisor), upper)
    nought = tuple([0] * len(row))
    best = put_on(put_on(nought, for_upper, upper), for_row, row)
    rest = put_on(put_on(nought, upper[at] // divisor, row), -(row[at] // divisor), upper)
    return best, rest


def put_in(kept, row):
    """Puts a row to stepped rows, none of noughts, so that they span it, too."""
    place = 0
    at = first_place(row)
    while at is not None:
        while place < len(kept) and first_place(kept[place]) < at:
            place += 1
        if place == len(kept) or first_place(kept[place]) > at:
            if row[at] < 0:
                row = put_on(tuple([0] * len(row)), -1, row)
            kept.insert(place, row)
            break
        kept[place], row = merged(kept[place], row, at)
        kept[place] = lowered(kept[place], kept, place + 1)
        row = lowered(row, kept, place + 1)
        at = first_place(row)
    tidy(kept)


def stepped_rows(rows):
    """The stepped rows that are not of noughts, whose span is that of the rows."""
    kept = []
    for row in rows:
        put_in(kept, tuple(row))
    return kept


def with_units(rows):
    """The rows, behind each one the unit row that tells its position."""
    many = len(rows)
    return [tuple(row) + tuple([int(at == place) for at in range(many)]) for place, row in enumerate(rows)]


def led_by_heads(row, kept):
    """What is left of a row by the stepped rows, and how often each was taken away.

    A number at a head that its head does not divide stays and ends it.
    """
    times = [0] * len(kept)
    for place, below in enumerate(kept):
        at = first_place(below)
        if row[at] % below[at] != 0:
            break
        times[place] = row[at] // below[at]
        row = put_on(row, -times[place], below)
    return row, times
