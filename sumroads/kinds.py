"""PATTERNS of changes, put on unlike layers of stacks; books of patterns, roads by them."""

from sumroads.errors import InvalidChanges, InvalidPattern, InvalidPatterns, InvalidStack, TooMany
from sumroads.integers import is_listed, is_rising
from sumroads.kernels import check_frame
from sumroads.layered import MOST_LAYERS, MOST_STACKS, check_stack, is_stack_of, over_all
from sumroads.moves import above_nought, is_small_change, turned
from sumroads.placing import both_ways, is_stack_way, stacks_from, turned_pattern, walked_stacks
from sumroads.roads import road_along

LEAST_KIND = 2
MOST_PATTERNS = 40


def are_changes_of_pattern(frame, changes):
    """Whether the changes, none all 0, are as many and as small as a pattern's, and add up to 0."""
    if not LEAST_KIND <= len(changes) <= MOST_LAYERS:
        return False
    return all([is_small_change(frame, change) for change in changes]) and not any(over_all(changes))


def lesser_way(changes):
    """The pattern of changes that add up to 0: of the sorted ones and the turned ones the lesser."""
    ahead = tuple(sorted(changes))
    return min(ahead, turned_pattern(ahead))


def is_pattern_of(frame, value):
    """As is_pattern, of a frame that is known to be one."""
    if not isinstance(value, tuple) or not are_changes_of_pattern(frame, value):
        return False
    return all([any(change) for change in value]) and lesser_way(value) == value


def is_pattern(frame, value):
    check_frame(frame)
    return is_pattern_of(frame, value)


def is_pattern_book(frame, value):
    check_frame(frame)
    if not isinstance(value, tuple) or len(value) > MOST_PATTERNS:
        return False
    return all([is_pattern_of(frame, pattern) for pattern in value]) and is_rising(value)


def check_pattern(frame, value):
    if not is_pattern(frame, value):
        raise InvalidPattern(value)


def check_patterns(frame, value):
    if not is_pattern_book(frame, value):
        raise InvalidPatterns(value)


def pattern_of(frame, changes):
    check_frame(frame)
    if not is_listed(changes) or not all([is_small_change(frame, change) for change in changes]):
        raise InvalidChanges(changes)
    left = [change for change in changes if any(change)]
    if not are_changes_of_pattern(frame, left):
        raise InvalidChanges(changes)
    return lesser_way(left)


def pattern_kind(frame, pattern):
    check_pattern(frame, pattern)
    return len(pattern)


def pattern_ends(frame, pattern):
    check_pattern(frame, pattern)
    return ends_of_changes(pattern)


def ends_of_changes(pattern):
    ahead = tuple([above_nought(change) for change in pattern])
    return (ahead, tuple([above_nought(turned(change)) for change in pattern]))


def stack_steps(frame, patterns, stack):
    check_patterns(frame, patterns)
    check_stack(frame, stack)
    found = stacks_from(both_ways(patterns), stack, MOST_STACKS + 1)
    if len(found) > MOST_STACKS:
        raise TooMany("stacks", MOST_STACKS)
    return sorted(found)


def closed_stacks(frame, patterns, stack):
    check_patterns(frame, patterns)
    check_stack(frame, stack)
    return sorted(walked_stacks(patterns, stack))


def stack_road(frame, patterns, stack, other):
    check_patterns(frame, patterns)
    check_stack(frame, stack)
    if not is_stack_of(frame, other) or len(other) != len(stack):
        raise InvalidStack(other)
    return road_along(walked_stacks(patterns, stack), other)


def is_stack_road(frame, patterns, value):
    check_patterns(frame, patterns)
    if not isinstance(value, tuple) or len(value) == 0:
        return False
    return all([is_stack_of(frame, stack) for stack in value]) and is_stack_way(patterns, value)
