"""All unparted changes of stepped rows, cell by cell.

Looked at on the first cells alone, changes are parted or not as they are on all cells. What
is unparted on some first cells stays so with one cell more; further ones are sums of two with
like signs on the first cells and unlike signs at the new one. With those of lesser sizes first,
what is not parted by any that is known will never be; so nothing that was found goes again.
"""

from heapq import heappop, heappush

from sumroads.errors import TooMany
from sumroads.integers import first_place, put_on
from sumroads.kernels import basis, cells_of
from sumroads.moves import MOST_IN_MOVE, turned

MOST_UNPARTED = 200


class Limits:
    """What unparted changes keep to: TooMany(what, limit) as soon as they do not.

    known: how many there are, both signs counted; size: how great a number is; total: how
    great all numbers of one are together. None where it may be any.
    """

    def __init__(self, what, limit, known, size, total):
        self.what = what
        self.limit = limit
        self.known = known
        self.size = size
        self.total = total

    def check(self, row, known):
        """row: what stands on the first cells of one of so many that are known.

        There some unparted change of all cells has the very same numbers.
        """
        sizes = [abs(number) for number in row]
        is_beyond = self.known is not None and known > self.known
        is_beyond = is_beyond or self.size is not None and max(sizes) > self.size
        if is_beyond or self.total is not None and sum(sizes) > self.total:
            raise TooMany(self.what, self.limit)


class Known:
    """A change with its size and its signs on the first cells."""

    def __init__(self, change, cell):
        self.change = change
        self.here = change[cell]
        self.size = sum([abs(number) for number in change[:cell]])
        self.above = 0
        self.below = 0
        for at, number in enumerate(change[:cell]):
            if number > 0:
                self.above = self.above | (1 << at)
            elif number < 0:
                self.below = self.below | (1 << at)

    def is_alike(self, other):
        """Whether no first cell has unlike signs."""
        return self.above & other.below == 0 and self.below & other.above == 0

    def parts(self, other, cell):
        """Whether it is within the other one on the first cells and the new one."""
        if self.above & ~other.above != 0 or self.below & ~other.below != 0:
            return False
        for number, whole in zip(self.change[:cell + 1], other.change[:cell + 1]):
            if abs(number) > abs(whole):
                return False
        return self.here == 0 or (self.here > 0) == (other.here > 0)


class Parting:
    """The unparted changes, of both signs, on the first cells and a new one.

    queue: the tuples (size, number, one, other) of sums that are to be looked at.
    """

    def __init__(self, changes, cell, limits):
        self.cell = cell
        self.limits = limits
        self.known = []
        self.queue = []
        self.told = 0
        for change in changes:
            self.put(Known(change, cell))

    def put(self, new):
        for other in self.known:
            if new.here * other.here < 0 and new.is_alike(other):
                self.told += 1
                heappush(self.queue, (new.size + other.size, self.told, new.change, other.change))
        self.known.append(new)
        # A sum has greater numbers at the first cells, too, not at the new one alone.
        self.limits.check(new.change[:self.cell + 1], len(self.known))

    def all_known(self):
        """All unparted ones on the first cells and the new one; TooMany if they are beyond the limits."""
        while self.queue:
            _, _, one, other = heappop(self.queue)
            made = put_on(one, 1, other)
            if any(made[:self.cell + 1]):
                new = Known(made, self.cell)
                if not any([old.parts(new, self.cell) for old in self.known]):
                    self.put(new)
        return [old.change for old in self.known]


def with_row(changes, row):
    """The changes of more cells, when a further row of the basis has its head at the new one.

    The row can be put on and taken off as often as wanted; so each has there the least
    number above 0 or the greatest below 0, or 0.
    """
    cell = first_place(row)
    found = [row, turned(row)]
    for change in changes:
        least = put_on(change, -(change[cell] // row[cell]), row)
        found.append(least)
        if least[cell] != 0:
            found.append(put_on(least, -1, row))
    return found


def unparted_sums(rows, cells, limits):
    """All unparted ones, of both signs, of the whole sums of stepped rows of so many cells."""
    heads = {first_place(row): row for row in rows}
    changes = []
    for cell in range(cells):
        if cell in heads:
            changes = with_row(changes, heads[cell])
        changes = Parting(changes, cell, limits).all_known()
    return changes


def unparted_changes(frame):
    """All unparted changes, of both signs; TooMany if they are too many or too great."""
    limits = Limits("moves", MOST_UNPARTED, 2 * MOST_UNPARTED, MOST_IN_MOVE, None)
    return unparted_sums(basis(frame), cells_of(frame), limits)
