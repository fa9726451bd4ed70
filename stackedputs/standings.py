"""Standings of a key: its base, its cells and the positions of its held snapshots, and the steps between them.

A standing is a tuple (base, cells, holds).
"""

from stackedputs.ends import merged
from stackedputs.reach import state_after
from stackedputs.schemes import ABSENT, effect, is_integer, is_integer_from, is_row, is_state, rule_for

MOST_HOLDS = 3


def beginning(scheme):
    """Returns the standing of a key that nothing was written to."""
    return (ABSENT, (), ())


def is_standing(scheme, value):
    """Accepts any value as value. Returns whether it is a standing."""
    if not isinstance(value, tuple) or len(value) != 3:
        return False
    base, cells, holds = value
    return is_state(scheme, base) and is_row(scheme, cells) and _are_holds(len(cells), holds)


def steps(scheme, standing):
    """Returns, in ascending order, all steps of a standing."""
    _, cells, holds = standing
    lets = [("let", i) for i in range(len(holds))]
    merges = [("merge", k) for k in range(len(cells))]
    writes = [("write", operand) for operand in scheme[2]]
    candidates = [("hold",)] + lets + merges + [("settle",)] + writes
    return [step for step in candidates if is_step(scheme, standing, step)]


def is_step(scheme, standing, value):
    """Accepts any value as value. Returns whether it is a step of the standing."""
    _, cells, holds = standing
    if value == ("hold",):
        return len(holds) < MOST_HOLDS
    if value == ("settle",):
        return len(cells) > 0 and 0 not in holds
    if not isinstance(value, tuple) or len(value) != 2 or not is_integer(value[1]):
        return False
    word, number = value
    if word == "write":
        return number in scheme[2]
    if word == "let":
        return 0 <= number < len(holds)
    return word == "merge" and _may_merge(scheme, standing, number)


def after(scheme, standing, step):
    """Returns the standing after a step of it."""
    base, cells, holds = standing
    word = step[0]
    if word == "write":
        return (base, cells + (step[1],), holds)
    if word == "merge":
        return _after_merge(scheme, standing, step[1])
    if word == "settle":
        return (effect(scheme, cells[0], base), cells[1:], tuple([position - 1 for position in holds]))
    if word == "hold":
        return (base, cells, holds + (len(cells),))
    i = step[1]
    return (base, cells, holds[:i] + holds[i + 1:])


def read_now(scheme, standing):
    """Returns the read of now: what all cells make of the base."""
    base, cells, _ = standing
    return state_after(scheme, base, cells)


def read_held(scheme, standing, i):
    """Returns the read of the snapshot with index i in holds: what the cells before its position make of the base."""
    base, cells, holds = standing
    return state_after(scheme, base, cells[:holds[i]])


def _are_holds(last, value):
    if not isinstance(value, tuple) or len(value) > MOST_HOLDS:
        return False
    if not all([is_integer_from(0, last, item) for item in value]):
        return False
    # Several snapshots may be held between the same two writes: so equal positions are no fault.
    return all([one <= other for one, other in zip(value, value[1:])])


def _may_merge(scheme, standing, k):
    _, cells, holds = standing
    if not 0 <= k < len(cells) - 1 or k + 1 in holds:
        return False
    return rule_for(scheme, cells[k], cells[k + 1]) is not None


def _after_merge(scheme, standing, k):
    base, cells, holds = standing
    left = merged(scheme, cells, k)
    gone = len(cells) - len(left)
    # No snapshot is held at position k + 1, so those behind k are also behind both cells.
    positions = tuple([position - gone if position > k else position for position in holds])
    return (base, left, positions)
