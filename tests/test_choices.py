import copy
import itertools
import random
import unittest

from samples import (BAD, FULL, LOOSE, ODD_VALUES, SWAP, TALLY, StrictCase, as_bool, as_list, as_odd, is_same,
                     random_schemes, replaced, with_written)
from searches import own_has_book, own_is_stack, own_is_wrong, own_longest, own_stacks
from stackedputs.books import find_wrong
from stackedputs.choices import (find_choice, find_choice_book, is_choice_book, is_good, least_cost, with_rules)
from stackedputs.schemes import rule_for

PART = FULL[:3] + (FULL[3][:1] + FULL[3][2:5] + FULL[3][6:9] + FULL[3][10:],)
# Put 0, put absent, and exchange the two, which is undone by itself; a right rule for each pair.
SWAPS = (1, ((0, 0), (-1, -1), (0, -1)), (0, 1, 2),
         ((0, 0, 0), (0, 1, 1), (0, 2, 1), (1, 0, 0), (1, 1, 1), (1, 2, 0), (2, 0, 0), (2, 1, 1), (2, 2, -1)))
# All operands do the same, so that each rule but those into nothing is right.
SIX = (1, ((0, 0),) * 6, (0, 1, 2, 3, 4, 5), tuple((a, b, a) for a in range(6) for b in range(6)))
# No writes lead to the value 1, at which (0, 0, 1) is wrong; (1, 1, 1) is wrong at a state that is reached.
APART = (2, ((0, 0, 1), (0, 0, 0), (-1, -1, 1)), (0,), ())
# Operand 1 is made only by (0, 0, 1), and with it the wrong rule (1, 1, -1) counts.
LATER = (1, ((0, -1), (-1, 0)), (0,), ((1, 1, 0),))


def only(scheme, many, written):
    return (scheme[0], scheme[1], written, tuple(rule for rule in scheme[3] if max(rule) < many))


def without(scheme, pairs):
    return scheme[:3] + (tuple(rule for rule in scheme[3] if rule[:2] not in pairs),)


def own_whole(scheme, choice):
    return scheme[:3] + (tuple(sorted(set(scheme[3]) | set(choice))),)


def own_is_good(scheme, s, choice):
    whole = own_whole(scheme, choice)
    longest = own_longest(whole)
    return own_has_book(whole) and longest is not None and longest <= s


def own_least_cost(scheme, s, offer):
    """The least cost of a good choice, tried one by one, however much it is, or None."""
    costs = []
    for many in range(len(offer) + 1):
        for choice in itertools.combinations(sorted(offer), many):
            cost = sum(offer[rule] for rule in choice)
            if cost <= 10 and len({rule[:2] for rule in choice}) == many and own_is_good(scheme, s, choice):
                costs.append(cost)
    return min(costs, default=None)


def own_pages_for(row, offer, d):
    return [rule for rule in offer if rule[:2] in list(zip(row, row[1:])) and offer[rule] <= d]


def own_rest(offer, rule):
    return {other: cost for other, cost in offer.items() if other[:2] != rule[:2]}


def own_is_choice_book(scheme, s, offer, d, value):
    """What the document says of a choice book, for a value of any kind."""
    if type(value) is not tuple or len(value) < 2 or type(value[0]) is not str:
        return False
    if value[0] == "wrong":
        return len(value) == 2 and type(value[1]) is tuple and is_step_by_step_wrong(scheme, value[1])
    if value[0] != "row" or len(value) != 3 or not own_has_book(scheme):
        return False
    _, row, pages = value
    if type(row) is not tuple or len(row) != s + 1 or not own_is_stack(scheme, row) or type(pages) is not dict:
        return False
    if not is_same(sorted(pages, key=repr), sorted(own_pages_for(row, offer, d), key=repr)):
        return False
    return all(own_is_choice_book(own_whole(scheme, [rule]), s, own_rest(offer, rule), d - offer[rule], pages[rule])
               for rule in pages)


def is_step_by_step_wrong(scheme, history):
    steps = all(type(step) is tuple and all(type(item) in (int, str) for item in step) for step in history)
    return steps and own_is_wrong(scheme, history)


def other_book(rng, scheme, s, offer, d):
    """A choice book with rows as they come, where no good choice costs at most d."""
    if not own_has_book(scheme):
        return ("wrong", find_wrong(scheme))
    row = rng.choice(own_stacks(scheme, s + 1))
    rules = own_pages_for(row, offer, d)
    rng.shuffle(rules)
    return ("row", row, {rule: other_book(rng, own_whole(scheme, [rule]), s, own_rest(offer, rule), d - offer[rule])
                         for rule in rules})


def all_dicts(book):
    if book[0] == "wrong":
        return []
    return [book[2]] + [page for rest in book[2].values() for page in all_dicts(rest)]


def all_books(book):
    return [book] + ([page for rest in book[2].values() for page in all_books(rest)] if book[0] == "row" else [])


def random_case(rng):
    """A scheme whose rules are mostly right, s and an offer of rules for pairs that have none in it."""
    base = rng.choice([FULL, SWAPS, SIX, only(SIX, 3, (0, 1, 2)), only(SIX, 3, (0, 2)), FULL])
    pairs = [rule[:2] for rule in base[3]]
    gone = rng.sample(pairs, min(len(pairs), rng.choice([1, 2, 3, 4, 5, 8])))
    scheme = without(base, gone)
    if scheme[3] and rng.random() < 0.1:
        a, b, _ = rng.choice(scheme[3])
        scheme = own_whole(without(scheme, [(a, b)]), [(a, b, rng.choice([-1, 0, 1]))])
    rules = [rule for rule in base[3] if rule[:2] in gone]
    wanted = {rule for rule in rules if rng.random() < 0.8}
    wanted |= {(a, b, rng.randrange(-1, len(base[1]))) for a, b, _ in rules if rng.random() < 0.4}
    wanted = sorted(wanted) or rules[:1]
    offer = {rule: rng.choice([3, 3, 3, 4, 5, 6, 9]) for rule in rng.sample(wanted, min(12, len(wanted)))}
    return scheme, rng.choice([1, 1, 2, 2, 3, 4]), offer


def random_cases(seed, many):
    rng = random.Random(seed)
    return [random_case(rng) for _ in range(many)]


def cases_without_choice(seed, many, most=40):
    """(scheme, s, offer, d) for which no good choice costs at most d, and a book of not too many pages."""
    found = []
    for at, (scheme, s, offer) in enumerate(random_cases(seed, many)):
        d = (0, 2, 3, 5, 6, 8, 9)[at % 7]
        book = find_choice_book(scheme, s, offer, d)
        if book is not None and len(all_books(book)) <= most:
            found.append((scheme, s, offer, d))
    return found


class Examples(StrictCase):
    def test_rules_of_part(self):
        self.assert_same([rule_for(PART, 0, 1), rule_for(PART, 1, 1), rule_for(PART, 2, 1), rule_for(PART, 3, 1)],
                         [None, None, None, 3])

    def test_least_cost_find_choice_and_is_good(self):
        self.assert_same(
            [least_cost(PART, 2, {(0, 1, 3): 3, (1, 1, 3): 4, (2, 1, 0): 5}),
             find_choice(PART, 2, {(1, 1, 3): 4, (1, 1, 1): 3}, 9), is_good(PART, 2, ((1, 1, 1),)),
             is_good(PART, 1, ((1, 1, 3),))],
            [4, ((1, 1, 3),), False, False])

    def test_choice_books_without_pages(self):
        self.assert_same(
            [find_choice(PART, 2, {(0, 1, 3): 3}, 9),
             is_choice_book(PART, 2, {(0, 1, 3): 3}, 2, ('row', (0, 1, 1), {})),
             is_choice_book(PART, 2, {(0, 1, 3): 3}, 3, ('row', (0, 1, 1), {}))],
            [None, True, False])

    def test_a_choice_book_with_a_page(self):
        book = ('row', (1, 1, 1), {(1, 1, 1): ('wrong', (('write', 1), ('write', 1), ('merge', 0)))})
        self.assert_same(is_choice_book(PART, 2, {(1, 1, 1): 3}, 3, book), True)


class WithRules(StrictCase):
    def test_behind_between_and_before_the_schemes_own(self):
        three = SWAP[:1] + (((0, -1),) * 3, (0, 1, 2), ((1, 0, 2), (1, 2, 0)))
        for choice, wanted in (
                ((), ((1, 0, 2), (1, 2, 0))),
                (((2, 2, 1),), ((1, 0, 2), (1, 2, 0), (2, 2, 1))),
                (((1, 1, -1),), ((1, 0, 2), (1, 1, -1), (1, 2, 0))),
                (((0, 2, 1),), ((0, 2, 1), (1, 0, 2), (1, 2, 0))),
                (((0, 0, 0), (1, 1, 2), (2, 0, -1)),
                 ((0, 0, 0), (1, 0, 2), (1, 1, 2), (1, 2, 0), (2, 0, -1)))):
            self.assert_same(with_rules(three, choice), three[:3] + (wanted,))
        self.assert_same(with_rules(SWAP, ((0, 0, -1),)), (1, ((0, -1),), (0,), ((0, 0, -1),)))
        self.assert_same(with_rules(SWAP, ()), SWAP)

    def test_many_choices(self):
        for scheme, _, offer in random_cases(60, 120):
            for many in range(4):
                for choice in itertools.combinations(sorted(offer), many):
                    self.assert_same(with_rules(scheme, choice), own_whole(scheme, choice))

    def test_the_scheme_stays(self):
        scheme, choice = copy.deepcopy(PART), ((0, 1, 3), (2, 1, 0))
        with_rules(scheme, choice)
        self.assert_same([scheme, choice], [PART, ((0, 1, 3), (2, 1, 0))])


class IsGood(StrictCase):
    def test_against_the_tests_own(self):
        found = []
        for scheme, s, offer in random_cases(61, 250):
            for many in range(4):
                for choice in itertools.combinations(sorted(offer), many):
                    if len({rule[:2] for rule in choice}) == many:
                        found.append(is_good(scheme, s, choice))
                        self.assert_same(found[-1], own_is_good(scheme, s, choice))
        self.assertGreater(found.count(True), 100)
        self.assertGreater(found.count(False), 100)

    def test_random_schemes_without_a_choice(self):
        for scheme in random_schemes(62, 300):
            for s in range(1, 7):
                self.assert_same(is_good(scheme, s, ()), own_is_good(scheme, s, ()))

    def test_rows_of_just_s_operands_and_of_one_more(self):
        # The longest row without a rule is (0, 1, 2, 3, 4, 5), and with a rule for (2, 3) two rows of three.
        chain = without(SIX, [(k, k + 1) for k in range(5)])
        self.assert_same([is_good(chain, s, ()) for s in range(1, 7)], [False] * 5 + [True])
        self.assert_same([is_good(chain, s, ((2, 3, 0),)) for s in range(1, 7)], [False, False] + [True] * 4)
        self.assert_same([is_good(chain, s, ((1, 2, 5), (3, 4, 0))) for s in range(1, 7)], [False] + [True] * 5)
        self.assert_same([is_good(chain, 1, tuple((k, k + 1, 0) for k in range(5))),
                          is_good(chain, 1, tuple((k, k + 1, 0) for k in range(4)))], [True, False])

    def test_rings(self):
        ring = without(SIX, [(0, 0), (1, 2), (2, 1)])
        self.assert_same([is_good(ring, 6, ()), is_good(ring, 6, ((0, 0, 0),)), is_good(ring, 6, ((1, 2, 0),)),
                          is_good(ring, 6, ((0, 0, 0), (1, 2, 0))), is_good(ring, 2, ((0, 0, 0), (2, 1, 0))),
                          is_good(ring, 1, ((0, 0, 0), (2, 1, 0)))], [False, False, False, True, True, False])

    def test_operands_that_are_not_made_count_for_nothing(self):
        scheme = with_written(without(SIX, [(4, 5), (5, 5), (1, 0)]), (0, 1))
        # 4 and 5 have open pairs, even a ring, but nothing makes them.
        self.assert_same([is_good(scheme, 1, ()), is_good(scheme, 2, ()), is_good(scheme, 1, ((1, 0, 1),)),
                          is_good(scheme, 6, ((1, 0, 5),)), is_good(scheme, 2, ((1, 0, 4),))],
                         [False, True, True, False, True])

    def test_wrong_rules_at_states_that_are_reached_and_at_others(self):
        self.assert_same([is_good(APART, 1, ((0, 0, 1),)), is_good(APART, 2, ((0, 0, 1), (1, 1, 1))),
                          is_good(APART, 2, ((0, 0, 1), (0, 1, 0), (1, 0, 1), (1, 1, 1))),
                          is_good(APART, 1, ((0, 0, 1), (0, 1, 0), (1, 0, 1), (1, 1, 1))),
                          is_good(APART, 1, ((0, 0, 2),)), is_good(APART, 1, ((0, 0, -1),))],
                         [False, False, True, True, False, False])

    def test_wrong_rules_of_operands_that_only_the_choice_makes(self):
        flip, stay = ((0, 0, 1),), ((0, 0, -1),)
        later = LATER[:3] + (((1, 1, 0),),)
        rest = ((0, 1, 0), (1, 0, 0))
        self.assert_same([is_good(later, 1, stay), is_good(later, 1, flip + rest), is_good(later, 1, flip),
                          is_good(LATER[:3] + (((1, 1, 1),),), 1, flip + rest)], [True, False, False, True])

    def test_a_scheme_that_is_wrong_itself(self):
        choices = ((), ((0, 1, 0),), ((0, 1, 0), (2, 1, 0)))
        self.assert_same([is_good(BAD, 6, choice) for choice in choices], [False] * 3)


class FindChoiceOrBook(StrictCase):
    def assert_one(self, scheme, s, offer, d, least):
        """Checks what is told for one budget, where least is the least cost of all good choices, or None."""
        choice, book = find_choice(scheme, s, offer, d), find_choice_book(scheme, s, offer, d)
        if least is not None and least <= d:
            self.assertIs(type(choice), tuple)
            self.assertTrue(all(is_same(rule, tuple(rule)) and rule in offer for rule in choice))
            self.assertEqual(list(choice), sorted(set(choice)))
            self.assertEqual(len({rule[:2] for rule in choice}), len(choice))
            self.assertLessEqual(sum(offer[rule] for rule in choice), d)
            self.assertTrue(own_is_good(scheme, s, choice), (scheme, s, choice))
            self.assertIs(is_good(scheme, s, choice), True)
            self.assertIsNone(book)
        else:
            self.assertIsNone(choice)
            self.assertTrue(own_is_choice_book(scheme, s, offer, d, book), (scheme, s, offer, d, book))
            self.assertIs(is_choice_book(scheme, s, offer, d, book), True)
            dicts = all_dicts(book)
            self.assertEqual(len({id(page) for page in dicts}), len(dicts))

    def assert_all(self, scheme, s, offer):
        least = own_least_cost(scheme, s, offer)
        self.assert_same(least_cost(scheme, s, offer), least if least is None or least <= 9 else None)
        near = [] if least is None else [least - 1, least, least + 1]
        for d in sorted({0, 3, 9, *near} & set(range(10))):
            self.assert_one(scheme, s, offer, d, least)
        return least

    def test_many_offers(self):
        found = [self.assert_all(*case) for case in random_cases(63, 260)]
        self.assertTrue({0, 3, 4, 5, 6, 7, 9, None} <= set(found), sorted(set(found), key=repr))

    def test_offers_of_twelve_rules(self):
        chain = [(k, k + 1) for k in range(5)]
        rules = [(a, b, c) for a, b in chain for c in (-1, 0, 1)][:12]
        for s, costs in ((1, (3, 3, 3)), (2, (3, 3, 3)), (3, (9, 4, 3)), (4, (3, 5, 4)), (5, (3, 9, 8))):
            offer = {rule: costs[at % 3] for at, rule in enumerate(rules)}
            self.assertEqual(len(offer), 12)
            self.assert_all(without(SIX, chain), s, offer)

    def test_each_budget(self):
        # Two of these three rules are needed: 3 and 5 at the least, and never the two of the same pair.
        scheme, offer = without(SIX, [(0, 0), (1, 1)]), {(0, 0, 1): 5, (1, 1, 0): 4, (1, 1, 2): 3}
        self.assert_same([find_choice(scheme, 1, offer, d) for d in range(10)],
                         [None] * 8 + [((0, 0, 1), (1, 1, 2)), find_choice(scheme, 1, offer, 9)])
        self.assertIn(find_choice(scheme, 1, offer, 9), [((0, 0, 1), (1, 1, 0)), ((0, 0, 1), (1, 1, 2))])
        for d in range(10):
            self.assert_one(scheme, 1, offer, d, 8)

    def test_least_costs_told_one_by_one(self):
        one, two = without(SIX, [(4, 4)]), without(SIX, [(0, 0), (1, 1)])
        three = without(SIX, [(0, 0), (1, 1), (2, 2)])
        four = without(SIX, [(0, 0), (1, 1), (2, 2), (3, 3)])
        for scheme, offer, wanted in (
                (two, {(0, 0, 0): 3, (1, 1, 1): 3}, 6), (two, {(0, 0, 0): 4, (1, 1, 1): 5}, 9),
                (two, {(0, 0, 0): 5, (1, 1, 1): 5}, None), (two, {(0, 0, 0): 9, (1, 1, 1): 9}, None),
                (two, {(0, 0, 0): 3, (0, 0, 1): 3}, None), (three, {(k, k, 0): 3 for k in range(3)}, 9),
                (three, {(0, 0, 0): 3, (1, 1, 0): 3, (2, 2, 0): 4}, None),
                (four, {(k, k, 0): 3 for k in range(4)}, None),
                (one, {(4, 4, 2): 9}, 9), (one, {(4, 4, 2): 9, (4, 4, 5): 8}, 8), (one, {(4, 4, -1): 3}, None),
                (one, {(4, 4, -1): 3, (4, 4, 4): 7}, 7)):
            self.assertEqual(self.assert_all(scheme, 1, offer) if wanted is not None else None, wanted)
            self.assert_same(least_cost(scheme, 1, offer), wanted)

    def test_a_scheme_that_is_good_without_a_choice(self):
        for scheme in (FULL, SIX, SWAPS):
            whole, offer = without(scheme, [(1, 0)]), {(1, 0, 0): 3}
            self.assert_same([find_choice(whole, 2, offer, d) for d in (0, 2)], [(), ()])
            self.assert_same([least_cost(whole, 2, offer), find_choice_book(whole, 2, offer, 0),
                              find_choice_book(whole, 2, offer, 9)], [0, None, None])
            self.assert_all(whole, 2, offer)

    def test_a_scheme_that_is_wrong_itself(self):
        offer = {(0, 1, 0): 3, (2, 1, -1): 9}
        for d in (0, 3, 9):
            self.assert_one(BAD, 2, offer, d, None)
            self.assert_same(find_choice_book(BAD, 2, offer, d)[0], "wrong")
        self.assert_same(least_cost(BAD, 6, offer), None)

    def test_offers_whose_every_choice_is_wrong_or_leaves_too_long_a_row(self):
        wrong = {(0, 1, 0): 3, (1, 1, -1): 3, (2, 1, 2): 3, (1, 1, 1): 4}
        short = {(0, 1, 3): 3, (2, 1, 0): 3}
        for offer in (wrong, short):
            for s in (1, 2, 6):
                self.assert_same(least_cost(PART, s, offer), None)
                for d in (0, 3, 6, 9):
                    self.assert_one(PART, s, offer, d, None)

    def test_operands_that_are_made_only_with_the_choice(self):
        # With (0, 0, 1) operand 1 is made, and its pairs have no rules: so this is no good without the others.
        scheme = (1, ((0, 0), (0, 0)), (0,), ())
        offer = {(0, 0, 1): 3, (0, 1, 1): 3, (1, 0, 1): 3, (1, 1, 1): 3, (0, 0, 0): 9}
        self.assert_same([least_cost(scheme, 1, offer), find_choice(scheme, 1, offer, 9)], [9, ((0, 0, 0),)])
        self.assert_same([least_cost(scheme, 2, offer), least_cost(scheme, 3, offer)], [9, 9])
        self.assertEqual(self.assert_all(scheme, 2, offer), 9)
        self.assertEqual(self.assert_all(scheme, 1, {**offer, (0, 0, 0): 3}), 3)

    def test_the_order_in_which_the_keys_were_put_in_means_nothing(self):
        rng = random.Random(64)
        for scheme, s, offer in random_cases(65, 80):
            wanted = [[find_choice(scheme, s, offer, d), find_choice_book(scheme, s, offer, d)] for d in (0, 3, 6, 9)]
            items = list(offer.items())
            for _ in range(3):
                rng.shuffle(items)
                other = dict(items)
                for d, told in zip((0, 3, 6, 9), wanted):
                    self.assert_same([find_choice(scheme, s, other, d), find_choice_book(scheme, s, other, d)], told)
                self.assert_same(least_cost(scheme, s, other), least_cost(scheme, s, offer))

    def test_arguments_stay_and_told_books_belong_to_the_caller(self):
        for scheme, s, offer, d in cases_without_choice(66, 120):
            before = copy.deepcopy([scheme, s, offer, d])
            book = find_choice_book(scheme, s, offer, d)
            wanted = copy.deepcopy(book)
            find_choice(scheme, s, offer, d), least_cost(scheme, s, offer), is_choice_book(scheme, s, offer, d, book)
            self.assert_same([scheme, s, offer, d], before)
            self.assert_same(book, wanted)
            for page in all_dicts(book):
                page.clear()
            self.assert_same(find_choice_book(scheme, s, offer, d), wanted)
            self.assert_same([scheme, s, offer, d], before)


class IsChoiceBook(StrictCase):
    def assert_all(self, case, values, wanted):
        for value in values:
            self.assertIs(is_choice_book(*case, value), wanted, (case, repr(value)[:500]))

    def assert_as_own(self, case, values):
        found = [is_choice_book(*case, value) for value in values]
        for value, told in zip(values, found):
            self.assertIs(told, own_is_choice_book(*case, value), (case, repr(value)[:500]))
        return found

    def test_such_as_the_test_builds_with_other_rows(self):
        rng, many = random.Random(67), 0
        for case in cases_without_choice(68, 150):
            for _ in range(4):
                book = other_book(rng, *case)
                many += not is_same(book, find_choice_book(*case))
                self.assert_all(case, [book], True)
        self.assertGreater(many, 100)

    def test_books_for_other_arguments(self):
        cases = cases_without_choice(69, 60)
        for case, other in zip(cases, cases[1:]):
            self.assert_as_own(case, [find_choice_book(*other)])
        for scheme, s, offer, d in cases:
            book = find_choice_book(scheme, s, offer, d)
            for budget in range(10):
                self.assert_as_own((scheme, s, offer, budget), [book])
            for length in range(1, 7):
                self.assert_as_own((scheme, length, offer, d), [book])
            for rule in offer:
                self.assert_as_own((scheme, s, {k: offer[k] for k in offer if k != rule}, d), [book])
                self.assert_as_own((scheme, s, {**offer, rule: 3 if offer[rule] == 9 else 9}, d), [book])

    def test_pages_left_out_put_in_and_exchanged(self):
        seen = 0
        for case in cases_without_choice(70, 220):
            book = find_choice_book(*case)
            if book[0] == "wrong":
                continue
            word, row, pages = book
            rules = sorted(pages)
            self.assert_all(case, [(word, row, {k: pages[k] for k in rules if k != rule}) for rule in rules], False)
            extra = [rule for rule in case[2] if rule not in pages] + [(0, 0, 0), (9, 9, 9), (0, 0), (), None, "row", 0]
            page = ("wrong", (("write", 0), ("write", 0), ("merge", 0)))
            self.assert_all(case, [(word, row, {**pages, rule: other}) for rule in extra if rule not in pages
                                   for other in [page, book, *pages.values()][:4]], False)
            exchanged = [(word, row, {**pages, one: pages[other], other: pages[one]})
                         for one, other in itertools.combinations(rules, 2)]
            seen += self.assert_as_own(case, exchanged).count(False)
            self.assert_as_own(case, [(word, row, dict.fromkeys(rules, page)), (word, row, dict.fromkeys(rules, book))])
        self.assertGreater(seen, 5)

    def test_a_page_for_a_rule_that_costs_more_than_the_budget(self):
        scheme, row = PART, (1, 1, 1)
        page = ("wrong", (("write", 1), ("write", 1), ("merge", 0)))
        for cost in range(3, 10):
            for d in range(10):
                case = (scheme, 2, {(1, 1, 1): cost}, d)
                self.assert_all(case, [("row", row, {(1, 1, 1): page})], cost <= d)
                self.assert_all(case, [("row", row, {})], cost > d)
        # Behind a page of 3 the budget of 8 has only 5 left.
        scheme, offer = without(SIX, [(0, 0), (1, 1)]), {(0, 0, 0): 3, (1, 1, -1): 6, (1, 1, 1): 7}
        rest = ("row", (1, 1), {})
        self.assert_all((scheme, 1, offer, 8), [("row", (0, 0), {(0, 0, 0): rest})], True)
        self.assert_all((scheme, 1, offer, 8), [("row", (0, 0), {(0, 0, 0): ("row", (1, 1), {
            (1, 1, -1): ("wrong", (("write", 1), ("write", 1), ("merge", 0)))})})], False)
        self.assert_all((scheme, 1, offer, 9), [("row", (0, 0), {(0, 0, 0): rest})], False)
        self.assert_all((scheme, 1, offer, 9), [("row", (0, 0), {(0, 0, 0): ("row", (1, 1), {
            (1, 1, -1): ("wrong", (("write", 1), ("write", 1), ("merge", 0)))})})], True)

    def test_the_offer_behind_a_page_has_no_rule_for_its_pair(self):
        scheme, offer = without(SIX, [(0, 0), (1, 1)]), {(0, 0, 0): 3, (0, 0, 1): 3}
        rest = ("row", (1, 1), {})
        self.assert_all((scheme, 1, offer, 9), [("row", (0, 0), {(0, 0, 0): rest, (0, 0, 1): rest})], True)
        self.assert_all((scheme, 1, offer, 9), [("row", (0, 0), {(0, 0, 0): ("row", (1, 1), {(0, 0, 1): rest}),
                                                                 (0, 0, 1): rest})], False)
        self.assert_all((scheme, 1, offer, 9), [("row", (1, 1), {})], True)

    def test_rows_that_are_changed(self):
        for case in cases_without_choice(71, 120):
            book = find_choice_book(*case)
            if book[0] == "wrong":
                continue
            word, row, pages = book
            self.assert_all(case, [(word, row[:at] + row[at + 1:], pages) for at in range(len(row))]
                            + [(word, row + (operand,), pages) for operand in range(-1, 7)]
                            + [(word, (), pages), (word, row * 2, pages)], False)
            self.assert_as_own(case, [(word, row[:at] + (operand,) + row[at + 1:], pages)
                                      for at in range(len(row)) for operand in range(-2, 8)])

    def test_rows_with_operands_that_are_not_made_or_with_neighbours_that_have_a_rule(self):
        scheme = with_written(without(SIX, [(0, 0), (5, 5), (0, 5), (1, 1)]), (0, 1))
        case = (scheme, 1, {(0, 0, 0): 9}, 3)
        self.assert_all(case, [("row", (0, 0), {}), ("row", (1, 1), {})], True)
        self.assert_all(case, [("row", row, {}) for row in ((5, 5), (0, 5), (0, 1), (1, 0))], False)
        other = (with_written(scheme, (0, 5)),) + case[1:]
        self.assert_all(other, [("row", (5, 5), {}), ("row", (0, 5), {})], True)

    def test_wrong_histories_with_a_step_changed(self):
        offer = {(0, 1, 0): 3}
        right = find_wrong(BAD)
        self.assert_all((BAD, 2, offer, 9), [("wrong", right), ("wrong", (("hold",), ("let", 0)) + right)], True)
        values = [right[:at] + (step,) + right[at + 1:] for at in range(3)
                  for step in (("hold",), ("write", 0), ("write", 2), ("merge", 1), ("settle",), ("let", 0), (), None)]
        self.assert_as_own((BAD, 2, offer, 9), [("wrong", value) for value in values])
        self.assert_all((BAD, 2, offer, 9), [("wrong", value) for value in (
            (), right[:2], right[1:], right + (("hold",),), right * 2, list(right), None, (right,))], False)
        self.assert_all((TALLY, 2, offer, 9), [("wrong", right)], False)

    def test_a_row_for_a_scheme_that_is_wrong(self):
        # In BAD nothing is open but (0, 1) and (2, 1): so (0, 1) is a row of two, but a history is asked for.
        self.assert_all((BAD, 1, {(0, 1, -1): 9}, 0), [("row", (0, 1), {}), ("row", (2, 1), {})], False)
        good = BAD[:3] + (tuple(rule for rule in BAD[3] if rule[:2] != (1, 1)),)
        self.assert_all((good, 1, {(0, 1, -1): 9}, 0), [("row", (0, 1), {}), ("row", (2, 1), {})], True)

    def test_a_page_for_a_scheme_that_is_wrong(self):
        offer = {(1, 1, 1): 3, (0, 1, 0): 9}
        self.assert_all((PART, 1, offer, 3), [("row", (1, 1), {(1, 1, 1): ("row", (0, 1), {})})], False)
        self.assert_all((PART, 1, offer, 3), [("row", (1, 1), {(1, 1, 1): ("wrong", find_wrong(BAD))})], True)

    def test_words_and_kinds_exchanged(self):
        for case in cases_without_choice(72, 40):
            book = find_choice_book(*case)
            for word in ("wrong", "row", "Row", "", "rows", None, 0, ("row",), ["row"], b"row"):
                self.assert_as_own(case, [(word,) + book[1:]])
                if word != book[0]:
                    self.assert_all(case, [(word,) + book[1:]], False)
            self.assert_all(case, [book[1:], book[::-1], book + ({},), book + (None,), book[:-1], (book,), [book],
                                   list(book), dict.fromkeys(["wrong", "row"]), ()], False)
        row = (0, 1, 1)
        self.assert_all((PART, 2, {(0, 1, 3): 3}, 2), [
            ("row", {}, row), ("row", row), ("row", row, ()), ("row", row, []), ("row", row, None),
            ("row", [0, 1, 1], {}), ("row", "011", {})], False)

    def test_lists_bools_and_other_values_in_each_place(self):
        cases = [case for case in cases_without_choice(73, 120, most=4)]
        for case in cases[:25]:
            book = find_choice_book(*case)
            self.assert_all(case, replaced(book, as_list) + replaced(book, as_bool), False)
        for case in cases[:12]:
            self.assert_as_own(case, replaced(find_choice_book(*case), as_odd))

    def test_other_values(self):
        for case in ((PART, 2, {(0, 1, 3): 3}, 2), (BAD, 1, {(0, 1, 3): 3}, 9), (FULL, 1, {}, 0), (LOOSE, 1, {}, 3)):
            self.assert_all(case, ODD_VALUES + [0, 1, (), "row", "wrong", ("row",), ("wrong",), ((), (), ())], False)

    def test_where_there_is_a_good_choice_nothing_is_a_book(self):
        for scheme, s, offer in random_cases(74, 150):
            least = least_cost(scheme, s, offer)
            if least is not None and least > 0:
                book = find_choice_book(scheme, s, offer, least - 1)
                self.assert_all((scheme, s, offer, least - 1), [book], True)
                self.assert_all((scheme, s, offer, least), [book], False)

    def test_the_value_stays_as_it_is(self):
        for value in (("row", [0, 1, 1], {(0, 1, 3): ["wrong"]}), ["row", {1: [2]}, {}], {"row": [(0, 1, 1)]}):
            before = copy.deepcopy(value)
            is_choice_book(PART, 2, {(0, 1, 3): 3}, 9, value)
            self.assert_same(value, before)


if __name__ == "__main__":
    unittest.main()
