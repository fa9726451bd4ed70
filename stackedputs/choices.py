"""Choices of further rules: the cheapest ones that keep each read right and let few cells be left.

An offer is a dict from rules to their costs, a choice an ascending tuple of rules of the offer.
"""

from stackedputs.books import find_book, find_wrong, is_wrong
from stackedputs.schemes import is_integer
from stackedputs.stacks import is_stack, long_row

GREATEST_BUDGET = 9


def with_rules(scheme, choice):
    """Returns the scheme with the rules of a choice."""
    return scheme[:3] + (tuple(sorted(scheme[3] + choice)),)


def is_good(scheme, s, choice):
    """Returns whether the choice is good for s."""
    whole = with_rules(scheme, choice)
    return find_book(whole) is not None and long_row(whole, s + 1) is None


def find_choice(scheme, s, offer, d):
    """Returns a good choice that costs at most d, a cheapest one, or None if there is none."""
    for _, choice in sorted(_choices(offer, d)):
        if is_good(scheme, s, choice):
            return choice
    return None


def find_choice_book(scheme, s, offer, d):
    """Returns a choice book, which shows that no good choice costs at most d, or None if there is none."""
    if find_choice(scheme, s, offer, d) is not None:
        return None
    return _choice_book(scheme, s, offer, d)


def least_cost(scheme, s, offer):
    """Returns the least cost of a good choice if it is at most 9, else None."""
    choice = find_choice(scheme, s, offer, GREATEST_BUDGET)
    if choice is None:
        return None
    return sum([offer[rule] for rule in choice])


def is_choice_book(scheme, s, offer, d, value):
    """Accepts any value as value. Returns whether it is a choice book."""
    if not isinstance(value, tuple) or len(value) not in (2, 3):
        return False
    if len(value) == 2:
        return value[0] == "wrong" and is_wrong(scheme, value[1])
    word, row, pages = value
    if word != "row" or not is_stack(scheme, row) or len(row) != s + 1 or find_book(scheme) is None:
        return False
    # Integers first: a rule with True in it would be equal to one with 1.
    if not isinstance(pages, dict) or not all([_is_tuple_of_integers(rule) for rule in pages]):
        return False
    if sorted(pages) != _rules_for(row, offer, d):
        return False
    for rule, page in pages.items():
        if not is_choice_book(with_rules(scheme, (rule,)), s, _rest(offer, rule), d - offer[rule], page):
            return False
    return True


def _choices(offer, d):
    """Returns the list of (cost, choice) for all choices that cost at most d."""
    found = [(0, ())]
    for rule in sorted(offer):
        # In ascending order rules for one pair are neighbours: so only the last one can be for the same pair.
        further = [(cost + offer[rule], choice + (rule,)) for cost, choice in found
                   if cost + offer[rule] <= d and (choice == () or choice[-1][:2] != rule[:2])]
        found = found + further
    return found


def _choice_book(scheme, s, offer, d):
    """Returns a choice book where no good choice costs at most d."""
    history = find_wrong(scheme)
    if history is not None:
        return ("wrong", history)
    row = long_row(scheme, s + 1)
    pages = {}
    for rule in _rules_for(row, offer, d):
        pages[rule] = _choice_book(with_rules(scheme, (rule,)), s, _rest(offer, rule), d - offer[rule])
    return ("row", row, pages)


def _rules_for(row, offer, d):
    """Returns, in ascending order, the rules of the offer for neighbours of the row that cost at most d."""
    pairs = list(zip(row, row[1:]))
    return sorted([rule for rule in offer if rule[:2] in pairs and offer[rule] <= d])


def _rest(offer, rule):
    """Returns the offer without all rules for the pair of the rule."""
    return {other: cost for other, cost in offer.items() if other[:2] != rule[:2]}


def _is_tuple_of_integers(value):
    return isinstance(value, tuple) and all([is_integer(item) for item in value])
