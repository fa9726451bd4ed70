"""Overlaps: whether the order in which rows are merged makes a difference in the end."""

from stackedputs.ends import ends_of
from stackedputs.makings import is_made_row, made
from stackedputs.schemes import is_row, rule_for


def overlaps(scheme):
    """Returns, in ascending order, all overlaps."""
    operands = made(scheme)
    pairs = [(a, b) for a in operands for b in operands if rule_for(scheme, a, b) is not None]
    return [(a, b, c) for a, b in pairs for other, c in pairs if b == other]


def end_alike(scheme):
    """Returns whether each row of made operands has one end alone."""
    # If the orders of merging ever part, they do so at some overlap.
    return find_parting(scheme) is None


def find_joins(scheme):
    """Returns the joins, or None if there are none."""
    joins = {}
    for overlap in overlaps(scheme):
        # Merged once, it has two operands or one, which have one end alone: so a second end is that of the other merge.
        ends = ends_of(scheme, overlap)
        if len(ends) > 1:
            return None
        joins[overlap] = ends[0]
    return joins


def find_parting(scheme):
    """Returns a parting, or None if there is none."""
    for overlap in overlaps(scheme):
        ends = ends_of(scheme, overlap)
        if len(ends) > 1:
            return (overlap, ends[0], ends[1])
    return None


def are_joins(scheme, value):
    """Accepts any value as value. Returns whether it is joins."""
    if not isinstance(value, dict):
        return False
    # Rows first: a tuple with True in it would be equal to one with 1.
    if not all([is_row(scheme, overlap) and is_row(scheme, end) for overlap, end in value.items()]):
        return False
    return value == find_joins(scheme)


def is_parting(scheme, value):
    """Accepts any value as value. Returns whether it is a parting."""
    if not isinstance(value, tuple) or len(value) != 3:
        return False
    row, end, other = value
    if not is_made_row(scheme, row) or len(row) != 3 or not is_row(scheme, end) or not is_row(scheme, other):
        return False
    ends = ends_of(scheme, row)
    return end < other and end in ends and other in ends
