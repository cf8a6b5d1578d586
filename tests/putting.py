"""Patterns put on stacks by the words of the document, for the tests alone."""

import itertools


def turned_plainly(pattern):
    return tuple(sorted(tuple(-number for number in change) for change in pattern))


def added(table, change):
    return tuple(count + number for count, number in zip(table, change))


def put_plainly(patterns, stack):
    """All stacks that come of putting a pattern of the book on a stack."""
    found = set()
    for pattern in patterns:
        for changes in (pattern, turned_plainly(pattern)):
            for layers in itertools.permutations(range(len(stack)), len(changes)):
                made = list(stack)
                for layer, change in zip(layers, changes):
                    made[layer] = added(made[layer], change)
                if min(min(table) for table in made) >= 0:
                    found.add(tuple(made))
    return found


def stacks_by_distance(patterns, stack):
    """All stacks that are come to, each with the number of steps of a shortest road."""
    told, edge, many = {stack: 0}, {stack}, 0
    while edge:
        many += 1
        edge = {other for here in edge for other in put_plainly(patterns, here)} - set(told)
        told.update({other: many for other in edge})
    return told


def is_stack_road_plainly(patterns, road):
    return all(there in put_plainly(patterns, here) for here, there in zip(road, road[1:]))
