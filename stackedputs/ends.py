"""Ends of rows: what is left when a row of operands is merged until it may not be merged any more."""

from stackedputs.schemes import NOTHING, is_integer, rule_for
from stackedputs.walks import shortest_walks


def places(scheme, row):
    """Returns, in ascending order, the p at which the row may be merged."""
    return [p for p in range(len(row) - 1) if rule_for(scheme, row[p], row[p + 1]) is not None]


def merged(scheme, row, p):
    """Returns the row merged at p, where it may be."""
    result = rule_for(scheme, row[p], row[p + 1])
    left = () if result == NOTHING else (result,)
    return row[:p] + left + row[p + 2:]


def ends_of(scheme, row):
    """Returns, in ascending order, the ends of the row."""
    return sorted([other for other in _merges_to_all(scheme, row) if not places(scheme, other)])


def fewest_left(scheme, row):
    """Returns the least number of operands of an end of the row."""
    return min([len(end) for end in ends_of(scheme, row)])


def most_left(scheme, row):
    """Returns the greatest number of operands of an end of the row."""
    return max([len(end) for end in ends_of(scheme, row)])


def find_merges(scheme, row, end):
    """Returns a tuple of as few p as can be at which the row is merged until it is end, or None if there is none."""
    return _merges_to_all(scheme, row).get(end)


def are_merges(scheme, row, end, value):
    """Accepts any value as value. Returns whether it is a tuple of p at which the row is merged until it is end."""
    if not isinstance(value, tuple):
        return False
    left = row
    for p in value:
        if not is_integer(p) or p not in places(scheme, left):
            return False
        left = merged(scheme, left, p)
    return left == end


def _merges_to_all(scheme, row):
    """Returns the dict from each row to which mergings lead to a tuple of as few p as can be that lead to it."""
    return shortest_walks(row, lambda left: [(p, merged(scheme, left, p)) for p in places(scheme, left)])
