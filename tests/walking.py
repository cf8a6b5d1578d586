"""Plain walks from table to table, made by these tests alone."""

import random

from sumroads.kernels import basis, change_by
from tests.helpers import lot_plainly, random_frame, sums_plainly


def steps_plainly(book, table):
    found = set()
    for move in book:
        for sign in (1, -1):
            other = tuple(count + sign * number for count, number in zip(table, move))
            if min(other) >= 0:
                found.add(other)
    return found


def distances_plainly(book, table):
    """All tables that are come to, each with the number of steps of a shortest road."""
    told, edge, many = {table: 0}, {table}, 0
    while edge:
        many += 1
        edge = {other for here in edge for other in steps_plainly(book, here)} - set(told)
        told.update({other: many for other in edge})
    return told


def random_books(seed, many, size=3):
    """Tuples (frame, book, a table, its lot), with books of some few moves."""
    draw = random.Random(seed)
    while many:
        frame = random_frame(draw, draw.randint(2, 4), draw.randint(1, 3), draw.choice([1, 2, 3]))
        rows = len(basis(frame))
        moves = set()
        for _ in range(draw.randint(0, 3)):
            change = change_by(frame, tuple(draw.randint(-2, 2) for _ in range(rows)))
            move = max(change, tuple(-number for number in change))
            if any(move):
                moves.add(move)
        if rows == 0 and draw.random() < 0.7:
            continue
        table = tuple(draw.randint(0, size) for _ in frame[1][0])
        many -= 1
        yield frame, tuple(sorted(moves)), table, lot_plainly(frame, sums_plainly(frame, table))
