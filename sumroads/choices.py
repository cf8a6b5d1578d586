"""Unparted choices of unparted changes, and the patterns that come of them."""

from sumroads.errors import TooMany
from sumroads.hermite import stepped_rows, with_units
from sumroads.integers import first_place, put_on
from sumroads.kernels import cells_of
from sumroads.moves import turned
from sumroads.parting import Limits, unparted_changes, unparted_sums
from sumroads.unparted import moves_among
from sumroads.within import Within

MOST_CHOICE_CELLS = 3
MOST_CHOICE_MOVES = 6
MOST_MEMBERS = 6
# Of three cells a change has far fewer changes within it.
MOST_WITHIN = 1000000


def moves_for_choices(frame):
    """The unparted moves, if choices of them are told at all; otherwise TooMany."""
    if cells_of(frame) > MOST_CHOICE_CELLS:
        raise TooMany("cells", MOST_CHOICE_CELLS)
    moves = moves_among(unparted_changes(frame))
    if len(moves) > MOST_CHOICE_MOVES:
        raise TooMany("moves", MOST_CHOICE_MOVES)
    return moves


def choices_of(frame):
    """The sorted list of the unparted choices; TooMany if one has too many members.

    How often each move is taken, less how often it is turned, are rows that make 0 of the
    moves. But for a move beside itself turned, which is a choice of its own, an unparted one
    has no move both ways: so the others are the unparted ones of these rows.
    """
    moves = moves_for_choices(frame)
    cells = cells_of(frame)
    rows = [row[cells:] for row in stepped_rows(with_units(moves)) if first_place(row) >= cells]
    limits = Limits("number", MOST_MEMBERS, None, None, MOST_MEMBERS)
    found = [(turned(move), move) for move in moves]
    for times in unparted_sums(rows, len(moves), limits):
        found.append(members(moves, times))
    return sorted(found)


def members(moves, times):
    """The choice with each move so often as told, turned if that is below 0."""
    found = []
    for move, many in zip(moves, times):
        found.extend([move if many > 0 else turned(move)] * abs(many))
    return tuple(sorted(found))


def most_members(choices):
    """The told number of a frame with these unparted choices."""
    return max([len(choice) for choice in choices], default=1)


def have_like_signs(row, other):
    return all([number * more >= 0 for number, more in zip(row, other)])


def put_together(choice):
    """All sorted tuples of sums of members, each member once, with nowhere unlike signs in a sum."""
    found = {(): True}
    for member in choice:
        longer = {}
        for parts in found:
            longer[tuple(sorted(parts + (member,)))] = True
            for at, part in enumerate(parts):
                if have_like_signs(part, member):
                    longer[tuple(sorted(parts[:at] + (put_on(part, 1, member),) + parts[at + 1:]))] = True
        found = longer
    return sorted(found)


def is_unparted_by(lots):
    """Whether just two choices of one row from each lot add up to 0.

    lots: of each change of a pattern all changes within it; so all 0 is one of the two, the
    pattern itself the other.
    """
    ways = {tuple([0] * len(lots[0][0])): 1}
    for rows in lots:
        further = {}
        for total, many in ways.items():
            for row in rows:
                made = put_on(total, 1, row)
                further[made] = further.get(made, 0) + many
        ways = further
    return ways[tuple([0] * len(lots[0][0]))] == 2


class Patterns:
    """Tells of the patterns of a frame which ones are unparted.

    lots: the changes within each change that was asked for.
    """

    def __init__(self, frame):
        self.finder = Within(frame)
        self.lots = {}

    def is_unparted(self, pattern):
        for change in pattern:
            if change not in self.lots:
                self.lots[change] = self.finder.changes_in(change, MOST_WITHIN)
        return is_unparted_by([self.lots[change] for change in pattern])
