"""Books of patterns that are whole for any number of layers: decided by few stacks, with papers."""

from sumroads.choices import Patterns, choices_of, is_unparted_by, most_members, put_together
from sumroads.errors import InvalidMany, TooMany
from sumroads.integers import is_count_to, is_rising
from sumroads.kernels import check_frame
from sumroads.kinds import check_pattern, check_patterns, ends_of_changes, lesser_way
from sumroads.layered import MOST_LAYERS, is_stack_of, stack_sums
from sumroads.papers import is_word
from sumroads.placing import both_ways, is_stack_way, stacks_from, walked_stacks
from sumroads.roads import road_along
from sumroads.within import Within

MOST_CHANGES = 2000


def unparted_choices(frame):
    check_frame(frame)
    return choices_of(frame)


def told_number(frame):
    check_frame(frame)
    return most_members(choices_of(frame))


def unparted_patterns(frame):
    check_frame(frame)
    return patterns_of(frame)


def patterns_of(frame):
    """The unparted patterns of a frame that is known to be one."""
    found = {}
    for choice in choices_of(frame):
        for changes in put_together(choice):
            found[lesser_way(changes)] = True
    judge = Patterns(frame)
    return [pattern for pattern in sorted(found) if judge.is_unparted(pattern)]


def is_unparted_pattern(frame, pattern):
    check_pattern(frame, pattern)
    finder = Within(frame)
    lots = []
    many = 1
    for change in pattern:
        lots.append(finder.changes_in(change, MOST_CHANGES + 1))
        many = many * len(lots[-1])
        if many > MOST_CHANGES:
            raise TooMany("changes", MOST_CHANGES)
    return is_unparted_by(lots)


def whole_for(frame, patterns, many):
    check_patterns(frame, patterns)
    if not is_count_to(many, MOST_LAYERS) or many < 1:
        raise InvalidMany(many)
    for pattern in patterns_of(frame):
        if len(pattern) <= many:
            ahead, behind = ends_of_changes(pattern)
            if behind not in walked_stacks(patterns, ahead):
                return False
    return True


def decided_any(frame, patterns):
    check_patterns(frame, patterns)
    roads = []
    for pattern in patterns_of(frame):
        ahead, behind = ends_of_changes(pattern)
        come_to = walked_stacks(patterns, ahead)
        road = road_along(come_to, behind)
        if road is None:
            return ("parted", ahead, behind, tuple(sorted(come_to)))
        roads.append(road)
    return ("whole", tuple(roads))


def is_any_paper(frame, patterns, value):
    check_patterns(frame, patterns)
    if not isinstance(value, tuple):
        return False
    if len(value) == 2 and is_word(value[0], "whole") and isinstance(value[1], tuple):
        return are_roads_for_all(frame, patterns, value[1])
    if len(value) == 4 and is_word(value[0], "parted"):
        return are_parted(frame, patterns, value[1], value[2], value[3])
    return False


def are_roads_for_all(frame, patterns, roads):
    """Whether there is, unparted pattern by unparted pattern, a road from its ahead end to its behind one."""
    wanted = patterns_of(frame)
    if len(roads) != len(wanted):
        return False
    return all([is_road_for(frame, patterns, pattern, road) for pattern, road in zip(wanted, roads)])


def is_road_for(frame, patterns, pattern, road):
    if not isinstance(road, tuple) or len(road) == 0 or not all([is_stack_of(frame, stack) for stack in road]):
        return False
    return (road[0], road[-1]) == ends_of_changes(pattern) and is_stack_way(patterns, road)


def are_parted(frame, patterns, stack, other, closed):
    """Whether closed shows that the other stack is not joined with the one."""
    if not is_stack_of(frame, stack) or not is_stack_of(frame, other) or not isinstance(closed, tuple):
        return False
    if stack_sums(frame, stack) != stack_sums(frame, other):
        return False
    if not all([is_stack_of(frame, here) for here in closed]) or not is_rising(closed):
        return False
    inside = {here: True for here in closed}
    return stack in inside and other not in inside and none_leads_out(patterns, inside)


def none_leads_out(patterns, inside):
    ways = both_ways(patterns)
    for here in list(inside):
        # One more than there are can't all be inside.
        for to in stacks_from(ways, here, len(inside) + 1):
            if to not in inside:
                return False
    return True
