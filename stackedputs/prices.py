"""Prices: numbers which show that no wrong history has fewer steps than they say.

Prices are a tuple (ways, costs) of two dicts: ways is from states to numbers of writes, costs is from tuples
(operand, state) to numbers of steps that make the operand above the state, by rules that are right there.
"""

from stackedputs.makings import keeps_joins, least_costs
from stackedputs.reach import reached, ways
from stackedputs.schemes import ABSENT, NOTHING, effect, is_integer, is_operand, is_right, is_state


def find_prices(scheme):
    """Returns prices for the number of steps of a shortest wrong history, or for any number if there is none."""
    costs, _ = right_costs(scheme)
    return (ways(scheme), costs)


def is_price(scheme, n, value):
    """Accepts any value as value. Returns whether it is prices for n."""
    if not isinstance(value, tuple) or len(value) != 2:
        return False
    numbers, costs = value
    if not _are_ways(scheme, numbers) or not _are_costs(scheme, numbers, costs):
        return False
    return all([merge[0] >= n for merge in wrong_merges(scheme, value)])


def fewest_steps(scheme):
    """Returns the number of steps of a shortest wrong history, or None if there is none."""
    return min([merge[0] for merge in wrong_merges(scheme, find_prices(scheme))], default=None)


def right_costs(scheme):
    """Returns costs and parts, as least_costs does, for all (operand, state) that right rules lead to."""
    states = reached(scheme)
    leaves = [(operand, state) for operand in scheme[2] for state in states]
    return least_costs(leaves, _right_joins(scheme, states))


def wrong_merges(scheme, prices):
    """Returns a tuple (number, state, one, other) for each merge by a rule that is not right at the state.

    one and other are the keys in costs of what is merged, and the number is what the merge and all before it cost.
    """
    numbers, costs = prices
    found = []
    for state in sorted(numbers):
        for rule in scheme[3]:
            one, other = _merged_keys(scheme, rule, state)
            if one in costs and other in costs and not is_right(scheme, rule, state):
                found.append((numbers[state] + costs[one] + costs[other] + 1, state, one, other))
    return found


def _merged_keys(scheme, rule, state):
    """Returns the (operand, state) of both operands of the rule, the first one above the state."""
    a, b, _ = rule
    return (a, state), (b, effect(scheme, a, state))


def _right_joins(scheme, states):
    """Returns (one, other, result) for each rule that makes an operand and is right, at each of the states."""
    joins = []
    for state in states:
        for rule in scheme[3]:
            if rule[2] != NOTHING and is_right(scheme, rule, state):
                one, other = _merged_keys(scheme, rule, state)
                joins.append((one, other, (rule[2], state)))
    return joins


def _are_ways(scheme, value):
    if not isinstance(value, dict) or not all([is_state(scheme, state) for state in value]):
        return False
    if not all([is_integer(number) and number >= 0 for number in value.values()]):
        return False
    # The number of a way to a state and one write more; without -1 there is no way at all.
    return value.get(ABSENT) == 0 and all([_keeps_writes(scheme, value, state) for state in value])


def _keeps_writes(scheme, numbers, state):
    results = [effect(scheme, operand, state) for operand in scheme[2]]
    return all([result in numbers and numbers[result] <= numbers[state] + 1 for result in results])


def _are_costs(scheme, states, value):
    if not isinstance(value, dict) or not all([_is_cost_key(scheme, key) for key in value]):
        return False
    if not all([is_integer(cost) and cost >= 1 for cost in value.values()]):
        return False
    if not all([value.get((operand, state)) == 1 for operand in scheme[2] for state in states]):
        return False
    return keeps_joins(_right_joins(scheme, sorted(states)), value)


def _is_cost_key(scheme, key):
    if not isinstance(key, tuple) or len(key) != 2:
        return False
    return is_operand(scheme, key[0]) and is_state(scheme, key[1])
