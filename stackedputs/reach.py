"""Reached states: those to which the operands that clients write lead from absent."""

from stackedputs.schemes import ABSENT, effect, is_integer
from stackedputs.walks import shortest_walks


def state_after(scheme, state, row):
    """Returns the state to which the tuple of operands leads from the state."""
    result = state
    for operand in row:
        result = effect(scheme, operand, result)
    return result


def states_along(scheme, state, row):
    """Returns the list of the states before, between and after the operands of the row."""
    states = [state]
    for operand in row:
        states.append(effect(scheme, operand, states[-1]))
    return states


def reached(scheme):
    """Returns, in ascending order, all reached states."""
    return sorted(_shortest_ways(scheme))


def ways(scheme):
    """Returns the dict from each reached state to the least number of operands of a way to it."""
    return {state: len(way) for state, way in _shortest_ways(scheme).items()}


def way_to(scheme, state):
    """Returns a way to the state with as few operands as can be, or None if it is not reached."""
    return _shortest_ways(scheme).get(state)


def is_way(scheme, state, value):
    """Accepts any value as value. Returns whether it is a way to the state."""
    if not isinstance(value, tuple):
        return False
    written = scheme[2]
    if not all([is_integer(item) and item in written for item in value]):
        return False
    return state_after(scheme, ABSENT, value) == state


def _shortest_ways(scheme):
    """Returns the dict from each reached state to a way to it with as few operands as can be."""
    return shortest_walks(ABSENT, lambda state: [(a, effect(scheme, a, state)) for a in scheme[2]])
