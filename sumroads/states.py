"""STATES of sums: what can be left of them behind some cells, and the ways on from there."""

from sumroads.errors import TooMany
from sumroads.integers import put_on

MOST_STATES = 20000


def is_nowhere_below(row):
    return all([number >= 0 for number in row])


def states_behind(column, states):
    """The states behind one more cell, as a dict; no more than one beyond the bound."""
    found = {}
    for state in states:
        left = state
        # From a state that is known all further counts are known, too.
        while left not in found and is_nowhere_below(left) and len(found) <= MOST_STATES:
            found[left] = True
            left = put_on(left, -1, column)
    return found


def levels_of(columns, sums):
    """For each k from 0 on the dict of the states behind k cells."""
    levels = [{sums: True}]
    for column in columns:
        levels.append(states_behind(column, levels[-1]))
    return levels


def check_states(columns, sums):
    """TooMany if there are too many states for all k together."""
    states = {sums: True}
    many = 1
    for column in columns:
        states = states_behind(column, states)
        many += len(states)
        if many > MOST_STATES:
            raise TooMany("states", MOST_STATES)


def ways_of(columns, sums):
    """For each k from 0 on the dict of how many ways lead on from each state.

    The states are within the bound, whatever the sequence of the columns: those behind
    all cells have all others among them.
    """
    levels = levels_of(columns, sums)
    ways = [{state: int(not any(state)) for state in levels[-1]}]
    for at in reversed(range(len(columns))):
        by_count = {}
        for state in sorted(levels[at + 1]):
            less = put_on(state, -1, columns[at])
            by_count[state] = ways[-1][state] + by_count.get(less, 0)
        ways.append({state: by_count[state] for state in levels[at]})
    return ways[::-1]
