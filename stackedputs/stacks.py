"""Stacks: the cells that can be left when nothing is to be merged any more, and whether there is a bound for them."""

from stackedputs.makings import are_numbers_of_made, is_made_row, made
from stackedputs.schemes import rule_for


def open_pairs(scheme):
    """Returns, in ascending order, the open pairs."""
    operands = made(scheme)
    return [(a, b) for a in operands for b in operands if rule_for(scheme, a, b) is None]


def longest_row(scheme):
    """Returns a stack with as many operands as can be, or None if there is a ring."""
    ranks = find_ranks(scheme)
    if ranks is None:
        return None
    behind = _behind(scheme)
    best = max(ranks.values())
    row = [operand for operand in ranks if ranks[operand] == best][:1]
    while ranks[row[-1]] > 1:
        # A rank is one more than the greatest rank of what can stand behind: so there is always one.
        row.append([operand for operand in behind[row[-1]] if ranks[operand] == ranks[row[-1]] - 1][0])
    return tuple(row)


def find_ranks(scheme):
    """Returns ranks whose greatest one is the number of operands of a longest stack, or None if there is a ring."""
    ranks = _ranks_beside_rings(_behind(scheme))
    return ranks if len(ranks) == len(made(scheme)) else None


def find_ring(scheme):
    """Returns a ring, or None if there is none."""
    behind = _behind(scheme)
    ranks = _ranks_beside_rings(behind)
    lost = [operand for operand in behind if operand not in ranks]
    if not lost:
        return None
    row = []
    operand = lost[0]
    # What has no rank has something without a rank behind it: so this comes round at last.
    while operand not in row:
        row.append(operand)
        operand = [b for b in behind[operand] if b not in ranks][0]
    return tuple(row[row.index(operand):])


def long_row(scheme, n):
    """Returns a stack of n operands, or None if there is none."""
    ring = find_ring(scheme)
    if ring is not None:
        return (ring * n)[:n]
    row = longest_row(scheme)
    return row[:n] if n <= len(row) else None


def is_stack(scheme, value):
    """Accepts any value as value. Returns whether it is a stack."""
    return is_made_row(scheme, value) and _are_open(scheme, value, value[1:])


def is_ring(scheme, value):
    """Accepts any value as value. Returns whether it is a ring."""
    if not is_made_row(scheme, value) or len(value) == 0:
        return False
    return _are_open(scheme, value, value[1:] + value[:1])


def are_ranks(scheme, value):
    """Accepts any value as value. Returns whether it is ranks."""
    if not are_numbers_of_made(scheme, 1, value):
        return False
    return all([value[a] > value[b] for a, b in open_pairs(scheme)])


def _are_open(scheme, row, further):
    """Returns whether no operand of the row has a rule with the one at its place in the further row."""
    return all([rule_for(scheme, a, b) is None for a, b in zip(row, further)])


def _behind(scheme):
    """Returns the dict from each made operand to the list of those that make an open pair behind it."""
    behind = {operand: [] for operand in made(scheme)}
    for a, b in open_pairs(scheme):
        behind[a].append(b)
    return behind


def _ranks_beside_rings(behind):
    """Returns the dict from each operand from which no ring can be come to, to its rank, the least that it can have."""
    ranks = {}
    # In each of these rounds at least one more operand gets a rank, if any still can.
    for _ in behind:
        for operand, others in behind.items():
            if operand not in ranks and all([other in ranks for other in others]):
                ranks[operand] = 1 + max([ranks[other] for other in others], default=0)
    return ranks
