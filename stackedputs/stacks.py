"""Stacks: the cells that can be left when nothing is to be merged any more, and whether there is a bound for them."""

from stackedputs.makings import are_numbers_of_made, is_made_row, made
from stackedputs.rings import longest_among, ranks_among, ring_among
from stackedputs.schemes import rule_for


def open_pairs(scheme):
    """Returns, in ascending order, the open pairs."""
    operands = made(scheme)
    return [(a, b) for a in operands for b in operands if rule_for(scheme, a, b) is None]


def longest_row(scheme):
    """Returns a stack with as many operands as can be, or None if there is a ring."""
    return longest_among(_behind(scheme))


def find_ranks(scheme):
    """Returns ranks whose greatest one is the number of operands of a longest stack, or None if there is a ring."""
    return ranks_among(_behind(scheme))


def find_ring(scheme):
    """Returns a ring, or None if there is none."""
    return ring_among(_behind(scheme))


def long_row(scheme, n):
    """Returns a stack of n operands, or None if there is none."""
    ring = find_ring(scheme)
    if ring is not None:
        return (ring * n)[:n]
    row = longest_row(scheme)
    return row[:n] if n <= len(row) else None


def is_stack(scheme, value):
    """Accepts any value as value. Returns whether it is a stack."""
    return is_made_row(scheme, value) and _are_open(scheme, value, value[1:])


def is_ring(scheme, value):
    """Accepts any value as value. Returns whether it is a ring."""
    if not is_made_row(scheme, value) or len(value) == 0:
        return False
    return _are_open(scheme, value, value[1:] + value[:1])


def are_ranks(scheme, value):
    """Accepts any value as value. Returns whether it is ranks."""
    if not are_numbers_of_made(scheme, 1, value):
        return False
    return all([value[a] > value[b] for a, b in open_pairs(scheme)])


def _are_open(scheme, row, further):
    """Returns whether no operand of the row has a rule with the one at its place in the further row."""
    return all([rule_for(scheme, a, b) is None for a, b in zip(row, further)])


def _behind(scheme):
    """Returns the dict from each made operand to the list of those that make an open pair behind it."""
    behind = {operand: [] for operand in made(scheme)}
    for a, b in open_pairs(scheme):
        behind[a].append(b)
    return behind
