"""Makings: how operands are made of those that clients write, by rules.

A making of an operand is the operand, if it is written, or a tuple (operand, left, right) of it and two makings.
"""

from stackedputs.schemes import NOTHING, is_integer, is_operand, is_row, rule_for


def made(scheme):
    """Returns, in ascending order, the made operands."""
    return sorted(making_lengths(scheme))


def row_of(making):
    """Returns the tuple of the written operands in the making, from left to right."""
    row = []
    # A list of what is still to be looked at, instead of recursion: a making may be nested to any depth.
    rest = [making]
    while rest:
        item = rest.pop()
        if isinstance(item, tuple):
            _, left, right = item
            rest.append(right)
            rest.append(left)
        else:
            row.append(item)
    return tuple(row)


def steps_of(making):
    """Returns the number of steps of the making."""
    # Each tuple puts two into one: so there is one tuple less than there are written operands.
    return 2 * len(row_of(making)) - 1


def find_making(scheme, k):
    """Returns a making of the operand with as few steps as can be, or None if it is not made."""
    costs, parts = least_costs(scheme[2], _joins(scheme))
    if k not in costs:
        return None
    return _making_of(parts, k)


def making_lengths(scheme):
    """Returns the dict from each made operand to the number of steps of a shortest making."""
    costs, _ = least_costs(scheme[2], _joins(scheme))
    return costs


def is_making(scheme, k, value):
    """Accepts any value as value. Returns whether it is a making of the operand k."""
    rest = [value]
    while rest:
        item = rest.pop()
        if isinstance(item, tuple):
            if not _is_join(scheme, item):
                return False
            rest.extend(item[1:])
        elif not is_integer(item) or item not in scheme[2]:
            return False
    return _head(value) == k


def are_lengths(scheme, value):
    """Accepts any value as value. Returns whether it is lengths."""
    if not are_numbers_of_made(scheme, 0, value):
        return False
    return all([value[operand] <= 1 for operand in scheme[2]]) and keeps_joins(_joins(scheme), value)


def least_costs(leaves, joins):
    """Returns a dict of costs and a dict of parts, for all that can be put together.

    A leaf costs one step. A join (one, other, result) puts two things into a result, by one step more than they
    cost. The costs are the least ones; parts tells, for each thing that is no leaf, of which two it is made at
    this cost.
    """
    costs = {leaf: 1 for leaf in leaves}
    parts = {}
    cheaper = True
    while cheaper:
        cheaper = False
        for one, other, result in joins:
            if one in costs and other in costs:
                cost = costs[one] + costs[other] + 1
                if result not in costs or cost < costs[result]:
                    costs[result] = cost
                    parts[result] = (one, other)
                    cheaper = True
    return costs, parts


def keeps_joins(joins, numbers):
    """Returns whether no join has a result without a number, or with one above the cost of the join."""
    for one, other, result in joins:
        if one in numbers and other in numbers:
            if result not in numbers or numbers[result] > numbers[one] + numbers[other] + 1:
                return False
    return True


def is_made_row(scheme, value):
    """Accepts any value. Returns whether it is a tuple of made operands."""
    if not is_row(scheme, value):
        return False
    operands = made(scheme)
    return all([item in operands for item in value])


def are_numbers_of_made(scheme, low, value):
    """Accepts any value. Returns whether it is a dict from just all made operands to integers from low on."""
    if not isinstance(value, dict) or not all([is_integer(key) for key in value]):
        return False
    if sorted(value) != made(scheme):
        return False
    return all([is_integer(number) and number >= low for number in value.values()])


def _joins(scheme):
    """Returns the rules that make an operand."""
    return [rule for rule in scheme[3] if rule[2] != NOTHING]


def _making_of(parts, k):
    # A shortest making of an operand has none of the same operand inside: so this is at most six deep.
    if k not in parts:
        return k
    one, other = parts[k]
    return (k, _making_of(parts, one), _making_of(parts, other))


def _head(value):
    """Returns what would be the operand that is made, if the value is a making."""
    return value[0] if isinstance(value, tuple) and len(value) > 0 else value


def _is_join(scheme, item):
    """Returns whether the tuple names an operand and two parts from which a rule makes it."""
    if len(item) != 3:
        return False
    result, left, right = item
    a, b = _head(left), _head(right)
    if not all([is_operand(scheme, operand) for operand in (result, a, b)]):
        return False
    return rule_for(scheme, a, b) == result
