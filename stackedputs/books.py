"""Books, which show that no read is ever wrong, and wrong histories.

A book is a tuple (states, operands), a history a tuple of steps.
"""

from stackedputs.makings import made
from stackedputs.prices import right_costs, wrong_merges
from stackedputs.reach import reached, states_along, way_to, ways
from stackedputs.schemes import ABSENT, NOTHING, effect, is_ascending, is_right, is_row, is_state
from stackedputs.standings import after, beginning, is_step


def find_book(scheme):
    """Returns the least book, or None if there is none."""
    book = (tuple(reached(scheme)), tuple(made(scheme)))
    return book if is_book(scheme, book) else None


def find_wrong(scheme):
    """Returns a wrong history with as few steps as can be, or None if there is none."""
    costs, parts = right_costs(scheme)
    merges = wrong_merges(scheme, (ways(scheme), costs))
    if not merges:
        return None
    _, state, one, other = min(merges)
    way = way_to(scheme, state)
    at = len(way)
    writes = [("write", operand) for operand in way]
    cells = _making_steps(parts, one, at) + _making_steps(parts, other, at + 1)
    return tuple(writes + cells + [("merge", at)])


def is_book(scheme, value):
    """Accepts any value as value. Returns whether it is a book."""
    if not isinstance(value, tuple) or len(value) != 2:
        return False
    states, operands = value
    if not isinstance(states, tuple) or not all([is_state(scheme, state) for state in states]):
        return False
    if not is_row(scheme, operands) or not is_ascending(states) or not is_ascending(operands):
        return False
    return _are_states_of_book(scheme, states) and _are_operands_of_book(scheme, states, operands)


def is_wrong(scheme, value):
    """Accepts any value as value. Returns whether it is a wrong history."""
    if not isinstance(value, tuple):
        return False
    standing = beginning(scheme)
    plain = ABSENT
    seen = ()
    wrong = False
    for step in value:
        if wrong or not is_step(scheme, standing, step):
            return False
        standing = after(scheme, standing, step)
        plain, seen = _plain_after(scheme, plain, seen, step)
        # As long as all reads are right, no step but a merge can change that: only then are they looked at.
        wrong = step[0] == "merge" and not _reads_are(scheme, standing, plain, seen)
    return wrong


def _are_states_of_book(scheme, states):
    if ABSENT not in states:
        return False
    return all([effect(scheme, operand, state) in states for operand in scheme[2] for state in states])


def _are_operands_of_book(scheme, states, operands):
    if not all([operand in operands for operand in scheme[2]]):
        return False
    rules = [rule for rule in scheme[3] if rule[0] in operands and rule[1] in operands]
    if not all([rule[2] == NOTHING or rule[2] in operands for rule in rules]):
        return False
    return all([is_right(scheme, rule, state) for rule in rules for state in states])


def _making_steps(parts, key, at):
    """Returns the list of the steps that make the key's operand as the cell at this index, above all others."""
    if key not in parts:
        return [("write", key[0])]
    one, other = parts[key]
    return _making_steps(parts, one, at) + _making_steps(parts, other, at + 1) + [("merge", at)]


def _plain_after(scheme, plain, seen, step):
    """Returns the plain state after the step, and those of the moments when the held snapshots were held."""
    if step[0] == "write":
        return effect(scheme, step[1], plain), seen
    if step[0] == "hold":
        return plain, seen + (plain,)
    if step[0] == "let":
        i = step[1]
        return plain, seen[:i] + seen[i + 1:]
    return plain, seen


def _reads_are(scheme, standing, plain, seen):
    """Returns whether the read of now is the plain state, and those of the held snapshots are the seen ones."""
    base, cells, holds = standing
    states = states_along(scheme, base, cells)
    return states[-1] == plain and tuple([states[position] for position in holds]) == seen
