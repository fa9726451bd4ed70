"""Readers: at how many operands one looks, from the newest one on, until what they make is known."""

from stackedputs.makings import are_numbers_of_made, made
from stackedputs.reach import reached
from stackedputs.rings import longest_among, ranks_among, ring_among
from stackedputs.schemes import effect
from stackedputs.stacks import is_ring, open_pairs

# Stands for the base among what a reader looks at: no operand has this number.
_BASE = -1


def final_operands(scheme):
    """Returns, in ascending order, the operands that are final, made or not."""
    states = reached(scheme)
    return [operand for operand in range(len(scheme[1]))
            if len(set([effect(scheme, operand, state) for state in states])) == 1]


def price_of(scheme, row):
    """Returns the price of the row."""
    final = final_operands(scheme)
    price = 1
    for operand in reversed(row):
        if operand in final:
            return price
        price += 1
    return price


def greatest_price(scheme):
    """Returns the greatest price of a stack, or None if there is no greatest one."""
    ranks = find_read_ranks(scheme)
    return None if ranks is None else max(ranks.values())


def find_dear(scheme):
    """Returns a stack with the greatest price, or None if there is no greatest one."""
    looked_at = longest_among(_nexts(scheme))
    if looked_at is None:
        return None
    return tuple([thing for thing in looked_at[::-1] if thing != _BASE])


def find_read_ranks(scheme):
    """Returns read ranks whose greatest one is the greatest price, or None if there is no greatest one."""
    ranks = ranks_among(_nexts(scheme))
    return None if ranks is None else {operand: ranks[operand] for operand in made(scheme)}


def find_dear_ring(scheme):
    """Returns a dear ring, or None if there is none."""
    ring = ring_among(_nexts(scheme))
    return None if ring is None else ring[::-1]


def are_read_ranks(scheme, value):
    """Accepts any value as value. Returns whether it is read ranks."""
    if not are_numbers_of_made(scheme, 1, value):
        return False
    final = final_operands(scheme)
    if not all([operand in final or value[operand] >= 2 for operand in value]):
        return False
    return all([b in final or value[b] > value[a] for a, b in open_pairs(scheme)])


def is_dear_ring(scheme, value):
    """Accepts any value as value. Returns whether it is a dear ring."""
    if not is_ring(scheme, value):
        return False
    final = final_operands(scheme)
    return not any([operand in final for operand in value])


def _nexts(scheme):
    """Returns the dict from each made operand, and the base, to the list of what a reader may look at next."""
    final = final_operands(scheme)
    nexts = {operand: [] if operand in final else [_BASE] for operand in made(scheme)}
    nexts[_BASE] = []
    for a, b in open_pairs(scheme):
        if b not in final:
            nexts[b].append(a)
    return nexts
