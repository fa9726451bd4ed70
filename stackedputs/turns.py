"""Turns, which tell what operands make of the reached states alone, and schemes with as few operands as can be."""

from stackedputs.books import find_book
from stackedputs.makings import made
from stackedputs.reach import reached, state_after
from stackedputs.schemes import MOST_OPERANDS, NOTHING, effect, is_scheme, row_effect
from stackedputs.walks import shortest_walks


def turn_of(scheme, row):
    """Returns the turn of the tuple of operands: the states to which it leads from the reached ones."""
    return tuple([state_after(scheme, state, row) for state in reached(scheme)])


def turns(scheme):
    """Returns, in ascending order, the turns of the scheme, each once."""
    return sorted(_shortest_rows(scheme))


def row_for(scheme, turn):
    """Returns a tuple of written operands with this turn, one or more but as few as can be, or None if there is none.
    """
    return _shortest_rows(scheme).get(turn)


def least_count(scheme):
    """Returns the number of operands that a least scheme has, if there is one."""
    return len(scheme[2]) + len(_further_turns(scheme))


def least_scheme(scheme):
    """Returns a least scheme, or None if there is none."""
    if least_count(scheme) > MOST_OPERANDS:
        return None
    written = tuple(range(len(scheme[2])))
    further = tuple([row_effect(scheme, row_for(scheme, turn)) for turn in _further_turns(scheme)])
    bare = (scheme[0], _written_effects(scheme) + further, written, ())
    return bare[:3] + (_rules_of_all_pairs(bare),)


def is_least(scheme, value):
    """Accepts any value as value. Returns whether it is a least scheme for the scheme."""
    if not is_scheme(value) or value[0] != scheme[0]:
        return False
    many, first = len(value[1]), len(scheme[2])
    # No scheme of this kind has fewer operands than this: each turn but the identity needs one with it.
    if many != least_count(scheme) or len(value[3]) != many * many:
        return False
    if value[2] != tuple(range(first)) or value[1][:first] != _written_effects(scheme):
        return False
    return len(made(value)) == many and find_book(value) is not None


def _shortest_rows(scheme):
    """Returns the dict from each turn of the scheme to a shortest tuple of written operands with it."""
    states = reached(scheme)
    # The search begins at (), which is no turn: so the identity is found only if some row of writes has it.
    rows = shortest_walks((), lambda turn: _turns_behind(scheme, turn or states))
    del rows[()]
    return rows


def _turns_behind(scheme, states):
    """Returns the list of (operand, turn) for what each written operand makes of the states."""
    return [(operand, tuple([effect(scheme, operand, state) for state in states])) for operand in scheme[2]]


def _further_turns(scheme):
    """Returns, in ascending order, the turns that are not the identity and that no written operand has."""
    states = reached(scheme)
    known = [turn for _, turn in _turns_behind(scheme, states)] + [tuple(states)]
    return [turn for turn in turns(scheme) if turn not in known]


def _written_effects(scheme):
    return tuple([scheme[1][operand] for operand in scheme[2]])


def _rules_of_all_pairs(scheme):
    """Returns a right rule for each pair of operands, where some operand or nothing has the turn of each pair."""
    operands = range(len(scheme[1]))
    # The identity stands first, so that what leaves all states is put into nothing, which needs no cell at all.
    results = {turn_of(scheme, ()): NOTHING}
    for operand in operands:
        results.setdefault(turn_of(scheme, (operand,)), operand)
    return tuple([(a, b, results[turn_of(scheme, (a, b))]) for a in operands for b in operands])
