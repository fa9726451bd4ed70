"""Reached states: those to which the operands that clients write lead from absent."""

from stackedputs.schemes import ABSENT, effect, is_integer


def state_after(scheme, state, row):
    """Returns the state to which the tuple of operands leads from the state."""
    result = state
    for operand in row:
        result = effect(scheme, operand, result)
    return result


def reached(scheme):
    """Returns, in ascending order, all reached states."""
    return sorted(_shortest_ways(scheme))


def ways(scheme):
    """Returns the dict from each reached state to the least number of operands of a way to it."""
    return {state: len(way) for state, way in _shortest_ways(scheme).items()}


def way_to(scheme, state):
    """Returns a way to the state with as few operands as can be, or None if it is not reached."""
    return _shortest_ways(scheme).get(state)


def is_way(scheme, state, value):
    """Accepts any value as value. Returns whether it is a way to the state."""
    if not isinstance(value, tuple):
        return False
    written = scheme[2]
    if not all([is_integer(item) and item in written for item in value]):
        return False
    return state_after(scheme, ABSENT, value) == state


def _shortest_ways(scheme):
    """Returns the dict from each reached state to a way to it with as few operands as can be."""
    found = {ABSENT: ()}
    newest = [ABSENT]
    # Each round adds the states whose shortest ways have one operand more than the last round's.
    while newest:
        further = []
        for state in newest:
            for operand in scheme[2]:
                result = effect(scheme, operand, state)
                if result not in found:
                    found[result] = found[state] + (operand,)
                    further.append(result)
        newest = further
    return found
