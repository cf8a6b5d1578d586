"""Moves that stand ALONE: those that every whole book has."""

from sumroads.integers import put_on
from sumroads.kernels import sums_by
from sumroads.leastbooks import least_count, pieces_needed
from sumroads.lots import lot
from sumroads.moves import above_nought, check_move, turned_right


def is_alone(frame, move):
    check_move(frame, move)
    return len(lot(frame, sums_by(frame, above_nought(move)))) == 2


def alone_moves(frame):
    """A move is alone exactly if its ends are two pieces of one table each, and there are no others."""
    found = []
    for _, pieces in pieces_needed(frame):
        if [len(piece) for piece in pieces] == [1, 1]:
            found.append(turned_right(put_on(pieces[0][0], -1, pieces[1][0])))
    return sorted(found)


def is_only_one(frame):
    return least_count(frame) == 1
