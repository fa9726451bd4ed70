"""Operands that are alike, schemes without what is never made, and whether two schemes are the same in the end."""

from stackedputs.makings import made
from stackedputs.schemes import NOTHING, is_ascending, is_integer, is_row
from stackedputs.turns import turn_of
from stackedputs.walks import shortest_walks

LONGEST_END = 2


def alike_groups(scheme):
    """Returns the list of ascending lists of made operands that are alike, in ascending order."""
    groups = {}
    for operand in made(scheme):
        groups.setdefault(turn_of(scheme, (operand,)), []).append(operand)
    return sorted(groups.values())


def taken_down(scheme):
    """Returns the scheme with only its made operands, numbered from 0 on in their order."""
    operands = made(scheme)
    numbers = {operand: number for number, operand in enumerate(operands)}
    effects = tuple([scheme[1][operand] for operand in operands])
    written = tuple([numbers[operand] for operand in scheme[2]])
    rules = [(numbers[a], numbers[b], NOTHING if c == NOTHING else numbers[c])
             for a, b, c in scheme[3] if a in numbers and b in numbers]
    return (scheme[0], effects, written, tuple(rules))


def end_of(scheme, row):
    """Returns the one end of the row, which is of made operands."""
    results = {(a, b): c for a, b, c in scheme[3]}
    # As all orders of merging end alike, each operand may be merged into those before it as soon as it comes.
    left = []
    for operand in row:
        coming = operand
        while left and (left[-1], coming) in results:
            coming = results[(left.pop(), coming)]
        if coming != NOTHING:
            left.append(coming)
    return tuple(left)


def same_in_the_end(one, other):
    """Returns whether each tuple of written operands has the same end in both."""
    return find_parting_row(one, other) is None


def find_table(one, other):
    """Returns the table that has only what it must have, or None if there is none."""
    pairs = sorted(_rows_to_ends(one, other))
    return tuple(pairs) if all([_is_like(pair) for pair in pairs]) else None


def find_parting_row(one, other):
    """Returns a row that parts them, with as few operands as can be, or None if there is none."""
    rows = [row for pair, row in _rows_to_ends(one, other).items() if not _is_like(pair)]
    return min(rows, key=len, default=None)


def is_table(one, other, value):
    """Accepts any value as value. Returns whether it is a table."""
    if not isinstance(value, tuple) or not all([_is_pair_of_rows(one, item) for item in value]):
        return False
    if not is_ascending(value) or ((), ()) not in value:
        return False
    common = [operand for operand in made(one) if operand in made(other)]
    if not all([_is_like(pair) and _is_short_row(common, pair[0]) for pair in value]):
        return False
    return all([_ends_behind(one, other, pair, operand) in value for pair in value for operand in one[2]])


def is_parting_row(one, other, value):
    """Accepts any value as value. Returns whether it is a row that parts them."""
    if not isinstance(value, tuple) or not all([is_integer(item) and item in one[2] for item in value]):
        return False
    pair = ((), ())
    for operand in value:
        if not _is_like(pair):
            return False
        pair = _ends_behind(one, other, pair, operand)
    return not _is_like(pair)


def _is_like(pair):
    return pair[0] == pair[1]


def _ends_behind(one, other, pair, operand):
    """Returns the ends in both schemes of the two rows with the operand behind them."""
    return (end_of(one, pair[0] + (operand,)), end_of(other, pair[1] + (operand,)))


def _rows_to_ends(one, other):
    """Returns the dict from pairs of ends in both schemes to a shortest tuple of written operands with these ends.

    All ends that are alike are among them, and all that are unlike for the first time.
    """
    return shortest_walks(((), ()), lambda pair: _moves(one, other, pair) if _is_like(pair) else [])


def _moves(one, other, pair):
    return [(operand, _ends_behind(one, other, pair, operand)) for operand in one[2]]


def _is_pair_of_rows(scheme, value):
    return isinstance(value, tuple) and len(value) == 2 and all([is_row(scheme, row) for row in value])


def _is_short_row(operands, row):
    return len(row) <= LONGEST_END and all([operand in operands for operand in row])
