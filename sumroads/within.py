"""What is WITHIN a change, found among the tables between its two ends."""

from sumroads.filling import Filling
from sumroads.integers import put_on
from sumroads.kernels import sums_by
from sumroads.moves import above_nought, turned


def lies_within(row, other):
    """Whether the row is within the other one, of as many numbers."""
    for number, whole in zip(row, other):
        if number > 0 and whole < number or number < 0 and whole > number:
            return False
    return True


def sizes_of(change):
    return tuple([abs(number) for number in change])


class Within:
    """Finds changes of a frame within other ones."""

    def __init__(self, frame):
        self.frame = frame
        self.filling = Filling(frame, False)

    def changes_in(self, change, most):
        """The first changes within a change, at most so many, sorted.

        Put on the behind end they are the tables under the change's sizes with the same sums.
        """
        behind = above_nought(turned(change))
        self.filling.put_under(sizes_of(change))
        tables = self.filling.first_ones(0, sums_by(self.frame, behind), 0, most)
        return [put_on(table, -1, behind) for table in tables]

    def proper_one(self, change):
        """A change within that is neither 0 nor the change itself, None if there is none."""
        for part in self.changes_in(change, 3):
            if any(part) and part != change:
                return part
        return None

    def is_unparted(self, change):
        return any(change) and self.proper_one(change) is None

    def unparted_in(self, change):
        """An unparted change within a change that is not all 0."""
        part = self.proper_one(change)
        while part is not None:
            rest = put_on(change, -1, part)
            # The lesser one of both has at most half of the size.
            change = min(part, rest, key=total_size)
            part = self.proper_one(change)
        return change

    def parts_of(self, change):
        """Unparted changes, each within the change, that add up to it."""
        parts = []
        while any(change):
            part = self.unparted_in(change)
            times = min([whole // number for whole, number in zip(change, part) if number != 0])
            parts.extend([part] * times)
            change = put_on(change, -times, part)
        return parts


def total_size(change):
    return sum(sizes_of(change))
