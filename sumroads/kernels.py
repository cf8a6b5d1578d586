"""FRAMES and their CHANGES: the basis, and the numbers of a change in it."""

from sumroads.errors import InvalidChange, InvalidFrame, InvalidNumbers
from sumroads.hermite import led_by_heads, stepped_rows, with_units
from sumroads.integers import are_counts, are_integers, are_small_integers, first_place, inner, put_on

MOST_CELLS = 16
MOST_FRAME_ROWS = 16
MOST_IN_FRAME = 9
MOST_SUM = 20000
MOST_SIZE = 1000000


def is_frame(value):
    if not isinstance(value, tuple) or len(value) != 2:
        return False
    word, rows = value
    if not isinstance(word, str) or word != "frame":
        return False
    if not isinstance(rows, tuple) or not 1 <= len(rows) <= MOST_FRAME_ROWS:
        return False
    if not isinstance(rows[0], tuple) or not 1 <= len(rows[0]) <= MOST_CELLS:
        return False
    many = len(rows[0])
    if not all([are_counts(row, many, MOST_IN_FRAME) for row in rows]):
        return False
    return all([any([row[cell] > 0 for row in rows]) for cell in range(many)])


def check_frame(value):
    if not is_frame(value):
        raise InvalidFrame(value)


def cells_of(frame):
    """How many cells a frame has."""
    return len(frame[1][0])


def columns_of(frame):
    """Cell by cell the tuple of its numbers in the rows."""
    return [tuple([row[cell] for row in frame[1]]) for cell in range(cells_of(frame))]


def sums_by(frame, numbers):
    """Row by row the sum of number times count, whatever the counts are."""
    return tuple([inner(row, numbers) for row in frame[1]])


def is_change_by(frame, value):
    """As is_change, of a frame that is known to be one."""
    return are_integers(value, cells_of(frame)) and first_place(sums_by(frame, value)) is None


def is_change(frame, value):
    check_frame(frame)
    return is_change_by(frame, value)


def basis(frame):
    check_frame(frame)
    many = len(frame[1])
    rows = stepped_rows(with_units(columns_of(frame)))
    return [row[many:] for row in rows if first_place(row) >= many]


def numbers_of(frame, change):
    check_frame(frame)
    if not is_change_by(frame, change):
        raise InvalidChange(change)
    _, times = led_by_heads(change, basis(frame))
    return tuple(times)


def change_by(frame, numbers):
    rows = basis(frame)
    if not are_small_integers(numbers, len(rows), MOST_SIZE):
        raise InvalidNumbers(numbers)
    change = tuple([0] * cells_of(frame))
    for row, many in zip(rows, numbers):
        change = put_on(change, many, row)
    return change
