"""STACKS of tables, layer by layer, with what stands at each cell over all layers told, too."""

from sumroads.errors import InvalidMany, InvalidStack, TooMany
from sumroads.filling import Filling
from sumroads.integers import is_count_to, put_on
from sumroads.kernels import MOST_CELLS, MOST_FRAME_ROWS, MOST_SUM, cells_of, check_frame, sums_by
from sumroads.lots import is_table_of

MOST_LAYERS = 8
MOST_STACKS = 2000


def over_all(stack):
    """Cell by cell what stands there in all layers together."""
    total = tuple([0] * len(stack[0]))
    for table in stack:
        total = put_on(total, 1, table)
    return total


def is_stack_of(frame, value):
    """As is_stack, of a frame that is known to be one."""
    if not isinstance(value, tuple) or not 1 <= len(value) <= MOST_LAYERS:
        return False
    return all([is_table_of(frame, table) for table in value]) and max(over_all(value)) <= MOST_SUM


def is_stack(frame, value):
    check_frame(frame)
    return is_stack_of(frame, value)


def check_stack(frame, value):
    if not is_stack(frame, value):
        raise InvalidStack(value)


def stack_sums(frame, stack):
    check_stack(frame, stack)
    return (tuple([sums_by(frame, table) for table in stack]), over_all(stack))


def unit_row(length, place):
    return tuple([int(at == place) for at in range(length)])


def layered_frame(frame, many):
    check_frame(frame)
    if not is_count_to(many, MOST_LAYERS) or many < 1:
        raise InvalidMany(many)
    cells = cells_of(frame)
    if many * cells > MOST_CELLS:
        raise TooMany("cells", MOST_CELLS)
    if many * len(frame[1]) + cells > MOST_FRAME_ROWS:
        raise TooMany("rows", MOST_FRAME_ROWS)
    rows = []
    for layer in range(many):
        ahead, behind = tuple([0] * (layer * cells)), tuple([0] * ((many - 1 - layer) * cells))
        rows.extend([ahead + row + behind for row in frame[1]])
    rows.extend([unit_row(cells, cell) * many for cell in range(cells)])
    return ("frame", tuple(rows))


def flat_of(frame, stack):
    check_stack(frame, stack)
    return tuple([count for table in stack for count in table])


class Stacking:
    """The ways to fill layers with told sums, when what stands over all of them is told.

    fillings: for each layer the ways to fill its cells under what is left over all layers.
    dead: layers, cells, sums left and what is left over all, from which no way leads on.
    """

    def __init__(self, frame, sums):
        self.sums = sums
        self.fillings = [Filling(frame, False) for _ in sums]
        self.dead = {}

    def first_flats(self, layer, left, most):
        """The first ways, at most so many, to fill the layers from this one on, cell behind cell."""
        if layer == len(self.sums) - 1:
            # What all others leave has the last layer's sums.
            return [left]
        self.fillings[layer].put_under(left)
        return self.from_cell(layer, 0, self.sums[layer], left, most)

    def from_cell(self, layer, cell, sums, left, most):
        """The same, with the cells of the first one from this cell on, sums being left of its sums."""
        if cell == len(left):
            return self.first_flats(layer + 1, left, most)
        state = (layer, cell, sums, left)
        if state in self.dead:
            return []
        filling = self.fillings[layer]
        found = []
        for count in filling.counts(cell, sums, 0):
            rest = put_on(sums, -count, filling.columns[cell])
            others = left[:cell] + (left[cell] - count,) + left[cell + 1:]
            tails = self.from_cell(layer, cell + 1, rest, others, most - len(found))
            found.extend([(count,) + tail for tail in tails])
            if len(found) >= most:
                break
        if not found:
            self.dead[state] = True
        return found


def stacks_with(frame, stack):
    sums, total = stack_sums(frame, stack)
    flats = Stacking(frame, sums).first_flats(0, total, MOST_STACKS + 1)
    if len(flats) > MOST_STACKS:
        raise TooMany("stacks", MOST_STACKS)
    return [layers_of(flat, len(total)) for flat in flats]


def layers_of(flat, cells):
    """The stack whose flat one this is."""
    return tuple([flat[at:at + cells] for at in range(0, len(flat), cells)])
