"""MOVES of a frame, their ends, and BOOKS of moves."""

from sumroads.errors import InvalidBook, InvalidChange, InvalidMove, InvalidRows, TooMany
from sumroads.integers import first_place, is_listed, is_rising
from sumroads.kernels import check_frame, is_change_by

MOST_MOVES = 60
MOST_IN_MOVE = 99
MOST_CHANGES = 200


def is_small_change(frame, value):
    """Whether any value is a change none of whose numbers is too great for a move."""
    return is_change_by(frame, value) and all([abs(number) <= MOST_IN_MOVE for number in value])


def is_move_of(frame, value):
    """As is_move, of a frame that is known to be one."""
    if not is_small_change(frame, value):
        return False
    at = first_place(value)
    return at is not None and value[at] > 0


def is_move(frame, value):
    check_frame(frame)
    return is_move_of(frame, value)


def is_book(frame, value):
    check_frame(frame)
    if not isinstance(value, tuple) or len(value) > MOST_MOVES:
        return False
    return all([is_move_of(frame, move) for move in value]) and is_rising(value)


def check_move(frame, value):
    if not is_move(frame, value):
        raise InvalidMove(value)


def check_book(frame, value):
    if not is_book(frame, value):
        raise InvalidBook(value)


def turned(row):
    return tuple([-number for number in row])


def turned_right(change):
    """The change, or the turned one, whose first number that is not 0 is above 0."""
    at = first_place(change)
    if at is not None and change[at] < 0:
        return turned(change)
    return change


def move_of(frame, change):
    check_frame(frame)
    if not is_small_change(frame, change) or first_place(change) is None:
        raise InvalidChange(change)
    return turned_right(change)


def ends(frame, move):
    check_move(frame, move)
    return (above_nought(move), above_nought(turned(move)))


def above_nought(row):
    return tuple([max(number, 0) for number in row])


def book_of(frame, rows):
    check_frame(frame)
    if not is_listed(rows) or len(rows) > MOST_CHANGES:
        raise InvalidRows(rows)
    if not all([is_small_change(frame, row) for row in rows]):
        raise InvalidRows(rows)
    moves = {turned_right(row): True for row in rows if first_place(row) is not None}
    if len(moves) > MOST_MOVES:
        raise TooMany("moves", MOST_MOVES)
    return tuple(sorted(moves))
