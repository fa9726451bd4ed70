import copy
import unittest

from samples import (BAD, DOCUMENTED, DOUBLINGS, FULL, LOOSE, ODD_VALUES, ROUNDS, SWAP, TALLY, StrictCase, as_bool,
                     as_odd, random_schemes, replaced, with_rules, with_written)
from searches import is_right_at, own_fewest_steps, own_reached, walked
from stackedputs.books import find_wrong
from stackedputs.prices import fewest_steps, find_prices, is_price
from stackedputs.reach import ways

# Only its last doubling is wrong, so that a shortest wrong history is long.
LONG = with_rules(DOUBLINGS, DOUBLINGS[3] + ((5, 5, -1),))
# Operand 1 is made by a rule that is right at -1 and 0, and wrong at 1.
PARTLY = (2, ((0, 1, 0), (1, 0, 0)), (0,), ((0, 0, 1), (0, 1, 0), (1, 1, -1)))
# Operand 2 puts 1, but nothing makes it; no writes lead to 1.
APART = (2, ((0, 0, 0), (-1, -1, 0), (1, 1, 1)), (0, 1), ((0, 0, 0), (1, 1, 1), (2, 0, 2), (2, 2, 2)))
SCHEMES = DOCUMENTED + [DOUBLINGS, ROUNDS, LONG, PARTLY, APART]


def own_is_price(scheme, n, ways, costs):
    """What the document says of prices, for two dicts with keys and numbers of the right kinds."""
    if ways.get(-1) != 0:
        return False
    for s in ways:
        for a in scheme[2]:
            t = walked(scheme, s, (a,))
            if t not in ways or ways[t] > ways[s] + 1 or (a, s) not in costs or costs[a, s] != 1:
                return False
        for rule in scheme[3]:
            a, b, c = rule
            t = walked(scheme, s, (a,))
            if (a, s) in costs and (b, t) in costs:
                both = costs[a, s] + costs[b, t] + 1
                if is_right_at(scheme, rule, s):
                    if c >= 0 and ((c, s) not in costs or costs[c, s] > both):
                        return False
                elif ways[s] + both < n:
                    return False
    return True


def nearby(scheme, prices):
    """Prices with a number raised or lowered, and with a key left out or put in, each of the right kind."""
    ways, costs = prices
    states = range(-1, scheme[0])
    keys = [(operand, state) for operand in range(len(scheme[1])) for state in states]
    for s in states:
        yield {k: ways[k] for k in ways if k != s}, costs
        for number in (0, 1, 2, 3, 10 ** 59):
            yield {**ways, s: number}, costs
    for key in keys:
        yield ways, {k: costs[k] for k in costs if k != key}
        for number in (1, 2, 3, 4, 10 ** 59):
            yield ways, {**costs, key: number}


class Examples(StrictCase):
    def test_fewest_steps_and_is_price(self):
        self.assert_same(
            [fewest_steps(BAD), fewest_steps(TALLY), is_price(BAD, 3, find_prices(BAD)),
             is_price(BAD, 4, find_prices(BAD)), is_price(TALLY, 1000, find_prices(TALLY))],
            [3, None, True, False, True])


class FindPrices(StrictCase):
    def test_told_prices_show_the_number_of_steps_and_no_more(self):
        for scheme in SCHEMES + random_schemes(20, 400):
            history, told = find_wrong(scheme), find_prices(scheme)
            many = 1000 if history is None else len(history)
            self.assertTrue(own_is_price(scheme, many, *told), scheme)
            self.assertIs(is_price(scheme, many, told), True)
            self.assertIs(is_price(scheme, many + 1, told), history is None)
            self.assertEqual(own_is_price(scheme, many + 1, *told), history is None)

    def test_told_one_by_one(self):
        self.assert_same(find_prices(SWAP), ({-1: 0, 0: 1}, {(0, -1): 1, (0, 0): 1}))
        self.assert_same(find_prices(FULL), (
            {-1: 0, 0: 1, 1: 2}, {(a, s): 3 if a == 3 else 1 for a in range(4) for s in (-1, 0, 1)}))
        self.assert_same(find_prices(with_written(FULL, (1, 2))), (
            {-1: 0, 0: 1, 1: 2}, {(a, s): 3 if a in (0, 3) else 1 for a in range(4) for s in (-1, 0, 1)}))

    def test_numbers_are_integers_of_states_and_pairs(self):
        for scheme in SCHEMES + random_schemes(21, 90):
            ways, costs = find_prices(scheme)
            self.assertTrue(all(type(item) is int for pair in ways.items() for item in pair))
            self.assertTrue(all(type(key) is tuple and type(cost) is int for key, cost in costs.items()))
            self.assertEqual(sorted(ways), own_reached(scheme))

    def test_told_dicts_belong_to_the_caller(self):
        for scheme in (BAD, FULL, SWAP):
            before = copy.deepcopy(find_prices(scheme))
            ways_told, costs = find_prices(scheme)
            self.assertIsNot(ways_told, costs)
            ways_told.clear()
            costs.clear()
            self.assert_same(find_prices(scheme), before)
            self.assert_same(ways(scheme), before[0])

    def test_equal_results_for_equal_arguments(self):
        for scheme in SCHEMES + random_schemes(22, 60):
            self.assert_same(find_prices(scheme), find_prices(copy.deepcopy(scheme)))


class FewestSteps(StrictCase):
    def test_against_the_told_history(self):
        for scheme in SCHEMES + random_schemes(23, 300):
            history = find_wrong(scheme)
            self.assert_same(fewest_steps(scheme), None if history is None else len(history))

    def test_against_a_search_of_all_histories(self):
        for scheme in random_schemes(24, 90) + [PARTLY]:
            many = fewest_steps(scheme)
            self.assertEqual(many if many is not None and many < 5 else None, own_fewest_steps(scheme, 4), scheme)

    def test_told_one_by_one(self):
        self.assert_same([fewest_steps(scheme) for scheme in (LONG, PARTLY, APART, LOOSE, SWAP, DOUBLINGS, ROUNDS)],
                         [127, 5, None, 3, None, None, None])

    def test_the_same_rules_with_other_written_operands_by_turns(self):
        for _ in range(3):
            self.assert_same([fewest_steps(with_written(BAD, written)) for written in ((0, 1), (0, 2), (1,), (2,))],
                             [3, None, 3, None])
            self.assert_same([fewest_steps(with_written(LONG, (k,))) for k in range(6)], [127, 63, 31, 15, 7, 3])


class IsPrice(StrictCase):
    def assert_all(self, scheme, n, values, wanted):
        for value in values:
            self.assertIs(is_price(scheme, n, value), wanted, (scheme, n, repr(value)[:300]))

    def test_at_above_and_below_what_they_show(self):
        for scheme, many in ((BAD, 3), (LONG, 127), (LOOSE, 3), (PARTLY, 5)):
            told = find_prices(scheme)
            for n in (0, 1, many - 1, many):
                self.assert_all(scheme, n, [told], True)
            for n in (many + 1, many + 2, 1000, 10 ** 59):
                self.assert_all(scheme, n, [told], False)
        for scheme in (TALLY, FULL, SWAP, DOUBLINGS, ROUNDS, APART):
            for n in (0, 1, 999, 1000, 1001, 10 ** 59):
                self.assert_all(scheme, n, [find_prices(scheme)], True)

    def test_numbers_and_keys_that_are_changed(self):
        for scheme in SCHEMES + random_schemes(25, 120):
            told = find_prices(scheme)
            many = fewest_steps(scheme) or 1000
            for value in nearby(scheme, told):
                for n in (0, many - 1, many, many + 1):
                    self.assertIs(is_price(scheme, n, value), own_is_price(scheme, n, *value), (scheme, n, value))

    def test_two_changes_at_once(self):
        for scheme in (BAD, SWAP, PARTLY, APART):
            many = fewest_steps(scheme) or 1000
            for value in nearby(scheme, find_prices(scheme)):
                for other in nearby(scheme, value):
                    self.assertIs(is_price(scheme, many, other), own_is_price(scheme, many, *other), (scheme, other))

    def test_a_number_that_is_raised(self):
        ways, costs = find_prices(LONG)
        self.assert_all(LONG, 127, [({**ways, 0: 2}, costs), ({**ways, -1: 1}, costs), ({**ways, 0: 10 ** 59}, costs)],
                        False)
        self.assert_all(LONG, 127, [(ways, {**costs, key: costs[key] + 1}) for key in costs], False)

    def test_a_number_that_is_lowered(self):
        ways, costs = find_prices(LONG)
        self.assert_all(LONG, 127, [({**ways, 0: 0}, costs)], True)
        self.assert_all(LONG, 127, [(ways, {**costs, (5, -1): 62}), (ways, {**costs, (4, 0): 30})], False)
        self.assert_all(LONG, 126, [(ways, {**costs, (5, -1): 62})], True)
        self.assert_all(LONG, 0, [(ways, {**costs, (5, -1): 1})], True)
        self.assert_all(LONG, 0, [(ways, {**costs, (5, -1): 0}), ({**ways, 0: -1}, costs), ({**ways, -1: -1}, costs),
                                  (ways, {**costs, (0, -1): 0})], False)

    def test_a_key_that_is_left_out_or_put_in(self):
        ways, costs = find_prices(LONG)
        for key in costs:
            self.assert_all(LONG, 0, [(ways, {k: costs[k] for k in costs if k != key})], False)
        for state in ways:
            self.assert_all(LONG, 0, [({k: ways[k] for k in ways if k != state}, costs)], False)
        self.assert_all(LONG, 0, [({**ways, 1: 1}, costs), ({**ways, -2: 1}, costs), (ways, {**costs, (6, 0): 1}),
                                  (ways, {**costs, (-1, 0): 1}), (ways, {**costs, (0, 1): 1}), ({}, {}), ({}, costs),
                                  (ways, {}), (ways, {**costs, (0, -2): 1})], False)
        ways, costs = find_prices(APART)
        self.assert_all(APART, 1000, [(ways, {**costs, (2, -1): 5, (2, 0): 5}), (ways, {**costs, (2, 1): 5})], True)
        self.assert_all(APART, 0, [({**ways, 1: 9}, costs), (ways, {**costs, (2, 2): 5}), (ways, {**costs, (3, 0): 5}),
                                   ({**ways, 1: -1}, {**costs, (0, 1): 1, (1, 1): 1})], False)

    def test_ways_and_costs_that_are_larger_than_need_be_count(self):
        ways, costs = find_prices(APART)
        larger = ({**ways, 1: 9}, {**costs, (0, 1): 1, (1, 1): 1})
        # At the value 1 the rule (1, 1, 1) is wrong: it counts as soon as prices speak of that state.
        self.assertFalse(is_right_at(APART, (1, 1, 1), 1))
        self.assert_all(APART, 12, [larger], True)
        self.assert_all(APART, 13, [larger], False)

    def test_keys_and_numbers_of_another_kind(self):
        for scheme in (BAD, SWAP, FULL):
            ways, costs = find_prices(scheme)
            for change in (as_bool, as_odd):
                values = ([(other, costs) for other in replaced(ways, change)]
                          + [(ways, other) for other in replaced(costs, change)])
                for value in values:
                    if not self.is_of_the_right_kinds(value):
                        self.assert_all(scheme, 0, [value], False)
        self.assert_all(SWAP, 0, [({-1: 0, False: 1}, find_prices(SWAP)[1]), ({-1: False, 0: 1}, find_prices(SWAP)[1]),
                                  ({-1: 0, 0: 1}, {(False, -1): 1, (0, 0): 1}),
                                  ({-1: 0, 0: 1}, {(0, -1): True, (0, 0): 1}),
                                  ({-1: 0, 0: 1}, {(0, -1): 1, (0, False): 1})], False)
        self.assert_all(SWAP, 0, [({-1: 0, 0: 1}, {(0, -1): 1, (0, 0): 1})], True)

    def is_of_the_right_kinds(self, value):
        ways, costs = value
        pairs = [type(key) is tuple and len(key) == 2 and all(type(item) is int for item in key) for key in costs] \
            if isinstance(costs, dict) else [False]
        numbers = list(ways) + list(ways.values()) if isinstance(ways, dict) else [None]
        return all(pairs) and all(type(item) is int for item in numbers + list(costs.values()))

    def test_odd_keys_put_in(self):
        ways, costs = find_prices(BAD)
        for key in (None, "0", "", (), (0,), (0, 0, 0), ((0, 0),), (0, "0"), (0, None), (None, 0), (True, 0),
                    (0, False), 0, 7, -1, (0, (0,)), ((0,), 0)):
            self.assert_all(BAD, 0, [(ways, {**{k: costs[k] for k in costs if k != key}, key: 1})], False)
        for key in (None, "0", "", (), (0,), (0, 0), 2, -2, 10 ** 59, (-1,)):
            self.assert_all(BAD, 0, [({**ways, key: 0}, costs)], False)

    def test_parts_left_out_or_too_many(self):
        ways, costs = find_prices(BAD)
        self.assert_all(BAD, 0, [(), (ways,), (costs,), (ways, costs, ()), (ways, costs, costs), (costs, ways),
                                 [ways, costs], (ways, ways), (costs, costs), ways, costs, (ways, None), (None, costs),
                                 (list(ways.items()), costs), (ways, list(costs.items())), ((ways, costs),)], False)

    def test_other_values(self):
        for scheme in (BAD, TALLY, SWAP):
            ways, costs = find_prices(scheme)
            for value in [value for value in ODD_VALUES + [0, 1, (), "ab", ("", "")] if value != ways]:
                self.assert_all(scheme, 0, [value, (value, value), (ways, value), (value, costs)], False)

    def test_the_value_stays_as_it_is(self):
        for value in (find_prices(BAD), find_prices(FULL), ({-1: [0]}, {(0, -1): [1]}), [{-1: 0}, {}]):
            before = copy.deepcopy(value)
            is_price(BAD, 3, value)
            self.assert_same(value, before)


if __name__ == "__main__":
    unittest.main()
