"""Patterns put on stacks: all stacks that come of it, and walks from stack to stack."""

from sumroads.errors import TooMany
from sumroads.integers import put_on
from sumroads.layered import MOST_STACKS
from sumroads.moves import turned
from sumroads.states import is_nowhere_below


def turned_pattern(pattern):
    return tuple(sorted([turned(change) for change in pattern]))


def both_ways(patterns):
    """The patterns and the turned ones, each once."""
    found = {}
    for pattern in patterns:
        found[pattern] = True
        found[turned_pattern(pattern)] = True
    return sorted(found)


class Placing:
    """The ways to put changes on unlike layers of a stack, one to each.

    dead: layers from which on changes that are left can't be put.
    """

    def __init__(self, stack):
        self.stack = stack
        self.nought = tuple([0] * len(stack[0]))
        self.dead = {}

    def first_ones(self, layer, left, most):
        """The first ways, at most so many, for the layers from this one on: what these become.

        left: the changes that are left, sorted, so that like ones stand side by side.
        """
        if len(left) > len(self.stack) - layer or (layer, left) in self.dead:
            return []
        if not left:
            return [self.stack[layer:]]
        found = []
        for at, change in enumerate(left + (self.nought,)):
            if at > 0 and change == left[at - 1]:
                continue
            here = put_on(self.stack[layer], 1, change)
            if is_nowhere_below(here):
                tails = self.first_ones(layer + 1, left[:at] + left[at + 1:], most - len(found))
                found.extend([(here,) + tail for tail in tails])
            if len(found) >= most:
                break
        if not found:
            self.dead[(layer, left)] = True
        return found


def stacks_from(ways, stack, most):
    """The stacks that come of putting some changes on a stack, at most so many.

    ways: sorted tuples of changes, those of patterns and of turned ones.
    """
    placing = Placing(stack)
    found = []
    for changes in ways:
        if len(found) < most:
            found.extend(placing.first_ones(0, changes, most - len(found)))
    return found


def walked_stacks(patterns, stack):
    """All stacks joined with a stack, nearest ones first: each with the one ahead of it."""
    ways = both_ways(patterns)
    ahead = {stack: None}
    queue = [stack]
    at = 0
    while at < len(queue):
        here = queue[at]
        at += 1
        # With more of them from here the closed lot has more, too.
        for other in stacks_from(ways, here, MOST_STACKS + 1):
            if other not in ahead:
                ahead[other] = here
                queue.append(other)
        if len(queue) > MOST_STACKS:
            raise TooMany("stacks", MOST_STACKS)
    return ahead


def changes_between(stack, other):
    """Layer by layer what is put on the one to come to the other, sorted, without noughts."""
    changes = [put_on(table, -1, ahead) for ahead, table in zip(stack, other)]
    return tuple(sorted([change for change in changes if any(change)]))


def is_stack_way(patterns, stacks):
    """Whether each stack but the first comes of putting a pattern on the one ahead."""
    ways = {changes: True for changes in both_ways(patterns)}
    for at in range(1, len(stacks)):
        one, other = stacks[at - 1], stacks[at]
        if len(one) != len(other) or changes_between(one, other) not in ways:
            return False
    return True
