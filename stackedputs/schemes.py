"""Schemes: what operands make of states, and the rules by which operands are merged.

A scheme is a tuple (v, effects, written, rules).
"""

ABSENT = -1
NOTHING = -1
MOST_VALUES = 4
MOST_OPERANDS = 6


def is_integer(value):
    """Accepts any value. Returns whether it is an integer."""
    # Python counts True and False among its integers; the document does not.
    return isinstance(value, int) and not isinstance(value, bool)


def is_integer_from(low, high, value):
    """Accepts any value. Returns whether it is an integer from low to high."""
    return is_integer(value) and low <= value <= high


def is_ascending(items):
    """Returns whether each of the integers, or tuples of integers, is less than the next one."""
    return all([one < other for one, other in zip(items, items[1:])])


def is_scheme(value):
    """Accepts any value. Returns whether it is a scheme."""
    if not isinstance(value, tuple) or len(value) != 4:
        return False
    v, effects, written, rules = value
    # In this order, as each part tells what the later ones may hold.
    if not is_integer_from(1, MOST_VALUES, v) or not _are_effects(v, effects):
        return False
    last = len(effects) - 1
    return _are_written(last, written) and _are_rules(last, rules)


def is_state(scheme, value):
    """Accepts any value. Returns whether it is a state of the scheme."""
    return is_integer_from(ABSENT, scheme[0] - 1, value)


def is_operand(scheme, value):
    """Accepts any value. Returns whether it is an operand of the scheme."""
    return is_integer_from(0, len(scheme[1]) - 1, value)


def is_row(scheme, value):
    """Accepts any value. Returns whether it is a tuple of operands of the scheme."""
    return isinstance(value, tuple) and all([is_operand(scheme, item) for item in value])


def _are_effects(v, value):
    if not isinstance(value, tuple) or not 1 <= len(value) <= MOST_OPERANDS:
        return False
    return all([_is_effect(v, item) for item in value])


def _is_effect(v, value):
    if not isinstance(value, tuple) or len(value) != v + 1:
        return False
    return all([is_integer_from(ABSENT, v - 1, item) for item in value])


def _are_written(last, value):
    if not isinstance(value, tuple) or len(value) == 0:
        return False
    return all([is_integer_from(0, last, item) for item in value]) and is_ascending(value)


def _are_rules(last, value):
    if not isinstance(value, tuple) or not all([_is_rule(last, item) for item in value]):
        return False
    # In ascending order rules for one pair are neighbours: so this finds them, too.
    return is_ascending([rule[:2] for rule in value])


def _is_rule(last, value):
    if not isinstance(value, tuple) or len(value) != 3:
        return False
    a, b, c = value
    return is_integer_from(0, last, a) and is_integer_from(0, last, b) and is_integer_from(NOTHING, last, c)


def effect(scheme, operand, state):
    """Returns what the operand makes of the state."""
    # The state -1 stands first in an effect.
    return scheme[1][operand][state + 1]


def rule_for(scheme, a, b):
    """Returns the c of the rule (a, b, c), which may be -1, or None if there is none."""
    for left, right, result in scheme[3]:
        if left == a and right == b:
            return result
    return None


def row_effect(scheme, row):
    """Returns the effect of all operands of the row, one after another, the oldest one first."""
    states = list(range(ABSENT, scheme[0]))
    for operand in row:
        states = [effect(scheme, operand, state) for state in states]
    return tuple(states)


def is_right(scheme, rule, state):
    """Returns whether the rule leads from the state to where its two operands lead, one after the other."""
    a, b, c = rule
    wanted = effect(scheme, b, effect(scheme, a, state))
    found = state if c == NOTHING else effect(scheme, c, state)
    return found == wanted
