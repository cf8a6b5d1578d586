"""Tables with told sums, found cell by cell, in ascending or descending sequence."""

from sumroads.cones import fences_behind
from sumroads.hermite import lowered, put_in
from sumroads.integers import first_place, inner, put_on
from sumroads.kernels import columns_of


class Filling:
    """The ways to fill the cells of a frame, and what is known of all of them.

    steps: for each cell the stepped rows of the columns behind it, with a 0, and of its
    own one, with a 1: by them is seen which counts can leave whole sums of the others.
    fences: for each cell the tuples (row, its product with the cell's column).
    ceilings: what no cell may be above, None if all may be; rooms: for each cell, fence
    by fence, the row's product with the sums of the cells behind it, filled to their ceilings.
    dead: cells and sums left that can't be filled from there on.
    """

    def __init__(self, frame, descending):
        self.columns = columns_of(frame)
        self.descending = descending
        self.steps = steps_of(self.columns)
        self.fences = []
        self.ceilings = None
        self.rooms = []
        self.dead = {}
        told = fences_behind(self.columns, len(frame[1]))
        for cell, column in enumerate(self.columns):
            self.fences.append([(row, inner(row, column)) for row in told[cell + 1]])

    def put_under(self, ceilings):
        """From now on no cell is filled above its ceiling."""
        self.ceilings = ceilings
        self.dead = {}
        self.rooms = []
        room = tuple([0] * len(self.columns[0]))
        for cell in reversed(range(len(self.columns))):
            self.rooms.append([inner(row, room) for row, _ in self.fences[cell]])
            room = put_on(room, ceilings[cell], self.columns[cell])
        self.rooms = self.rooms[::-1]

    def first_ones(self, cell, left, least, most):
        """The first ways, at most so many, to fill the cells from this one on.

        least is what this cell has at least; left are the sums that are left.
        """
        if cell == len(self.columns):
            return [()]
        if (cell, left) in self.dead:
            return []
        found = []
        for count in self.counts(cell, left, least):
            rest = put_on(left, -count, self.columns[cell])
            tails = self.first_ones(cell + 1, rest, 0, most - len(found))
            found.extend([(count,) + tail for tail in tails])
            if len(found) >= most:
                break
        if not found and least == 0:
            self.dead[(cell, left)] = True
        return found

    def counts(self, cell, left, least):
        """The counts of the cell behind which nothing bars the other ones, in sequence."""
        start, step = self.whole_counts(cell, left)
        if start is None:
            return []
        least, most = self.bounds(cell, left, least)
        if step == 0:
            return [start] if least <= start <= most else []
        first = least + (start - least) % step
        found = list(range(first, most + 1, step))
        return found[::-1] if self.descending else found

    def whole_counts(self, cell, left):
        """(count, step): one count that leaves a whole sum, and how far it is to the next.

        The step is 0 if there is no further one; the count is None if there is none.
        """
        rows = self.steps[cell]
        last = len(left)
        rest = lowered(left + (0,), rows, 0)
        at = first_place(rest[:last])
        if at is not None:
            return None, 0
        if first_place(rows[-1]) == last:
            return -rest[last], rows[-1][last]
        return -rest[last], 0

    def bounds(self, cell, left, least):
        most = min([number // by for number, by in zip(left, self.columns[cell]) if by > 0])
        for row, by in self.fences[cell]:
            side = inner(row, left)
            if by > 0:
                most = min(most, side // by)
            elif by < 0:
                least = max(least, -(side // -by))
            elif side < 0:
                most = -1
        if self.ceilings is not None:
            return self.bounds_under(cell, left, least, min(most, self.ceilings[cell]))
        return least, most

    def bounds_under(self, cell, left, least, most):
        """Bounds such that the cells behind have room enough for what is left."""
        for (row, by), room in zip(self.fences[cell], self.rooms[cell]):
            beyond = inner(row, left) - room
            if by > 0:
                least = max(least, -(-beyond // by))
            elif by < 0:
                most = min(most, -beyond // -by)
            elif beyond > 0:
                most = -1
        return least, most


def steps_of(columns):
    behind = []
    steps = []
    for column in columns[::-1]:
        rows = [row + (0,) for row in behind]
        put_in(rows, column + (1,))
        steps.append(rows)
        put_in(behind, column)
    return steps[::-1]


def first_tables(frame, sums, most):
    """The first tables of the lot, at most so many."""
    return Filling(frame, False).first_ones(0, sums, 0, most)


def first_under(frame, sums, ceilings, most):
    """The first tables of the lot that are under ceilings, at most so many."""
    filling = Filling(frame, False)
    filling.put_under(ceilings)
    return filling.first_ones(0, sums, 0, most)


def last_table(frame, sums):
    """The last table of the lot in a list, [] if the lot is empty."""
    return Filling(frame, True).first_ones(0, sums, 0, 1)


def table_behind(frame, table):
    """The next table of the lot in a list, [] if there is none."""
    filling = Filling(frame, False)
    left = tuple([0] * len(frame[1]))
    for cell in reversed(range(len(table))):
        left = put_on(left, table[cell], filling.columns[cell])
        tails = filling.first_ones(cell, left, table[cell] + 1, 1)
        if tails:
            return [table[:cell] + tails[0]]
    return []
