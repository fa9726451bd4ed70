import copy
import itertools
import random
import unittest

from samples import (ALL_PAIRS, BAD, DOCUMENTED, DOUBLINGS, FULL, LOOSE, ODD_VALUES, OPEN, SWAP, TALLY, StrictCase,
                     all_written, as_bool, as_list, as_odd, random_pairs, random_schemes, replaced, with_rules,
                     with_written)
from searches import own_is_stack, own_longest, own_made, own_open_pairs
from stackedputs.stacks import (are_ranks, find_ranks, find_ring, is_ring, is_stack, long_row, longest_row,
                                open_pairs)


def six_with_open(pairs, written=(0, 1, 2, 3, 4, 5)):
    """Six operands, and a rule for each pair but these."""
    return (1, ((0, 0),) * 6, written, tuple((a, b, a) for a, b in ALL_PAIRS if (a, b) not in pairs))


# The longest row goes through all operands, but a short one starts with each, too; its order is not ascending.
CHAIN = six_with_open([(3, 0), (0, 5), (5, 1), (1, 4), (4, 2), (3, 2), (3, 1), (0, 2)])
# Two branches, the one first in order the shorter; 5 stands alone.
FORK = six_with_open([(0, 1), (0, 2), (2, 3), (3, 4), (1, 4)])
# A ring of three, into which a tail leads and out of which another one leads.
TAILED = six_with_open([(0, 1), (1, 2), (2, 3), (3, 1), (3, 4), (4, 5), (2, 5)])
SELF = six_with_open([(4, 4), (0, 4), (4, 5)])
# 2 and 3 are not made, so their pairs are not open; 1 is made of 0 alone.
UNMADE = (1, ((0, 0),) * 4, (0,), ((0, 0, 1), (1, 0, 0), (1, 1, 0), (2, 3, 3)))
ONE_WITH, ONE_WITHOUT = (1, ((0, 0),), (0,), ((0, 0, 0),)), (1, ((0, 0),), (0,), ())
SCHEMES = DOCUMENTED + [DOUBLINGS, CHAIN, FORK, TAILED, SELF, UNMADE, ONE_WITH, ONE_WITHOUT]


def schemes_with_nearly_all_rules(seed, many):
    rng = random.Random(seed)
    schemes = []
    for at in range(many):
        pairs = random_pairs(rng, at % 2 == 0)
        schemes.append(six_with_open(pairs, tuple(sorted(rng.sample(range(6), rng.randint(1, 6))))))
    return schemes


def many_schemes(seed):
    return SCHEMES + random_schemes(seed, 200) + schemes_with_nearly_all_rules(seed, 200)


def holds_integers(value):
    return isinstance(value, dict) and all(type(item) is int for pair in value.items() for item in pair)


class Examples(StrictCase):
    def test_open_pairs_longest_row_and_find_ring(self):
        self.assert_same(
            [open_pairs(TALLY), open_pairs(FULL), open_pairs(OPEN), longest_row(TALLY), len(longest_row(FULL)),
             longest_row(OPEN), find_ring(OPEN)],
            [[(0, 1), (1, 1), (2, 1)], [], [(2, 1)], None, 1, (2, 1), None])

    def test_long_row_is_stack_and_is_ring(self):
        self.assert_same(
            [long_row(OPEN, 2), long_row(OPEN, 3), long_row(OPEN, 0), len(long_row(TALLY, 60)),
             is_stack(TALLY, (0, 1, 1)), is_stack(TALLY, (1, 0)), is_ring(TALLY, (1,)), is_ring(TALLY, (0, 1))],
            [(2, 1), None, (), 60, True, False, True, False])

    def test_ranks(self):
        self.assert_same(
            [are_ranks(OPEN, {0: 1, 1: 1, 2: 2, 3: 1}), are_ranks(OPEN, {0: 1, 1: 2, 2: 2, 3: 1}),
             are_ranks(OPEN, {0: 1, 1: 1, 2: 9, 3: 4}), find_ranks(TALLY)],
            [True, False, True, None])


class OpenPairs(StrictCase):
    def test_against_the_tests_own(self):
        for scheme in many_schemes(30):
            self.assert_same(open_pairs(scheme), own_open_pairs(scheme))

    def test_operands_that_are_not_made(self):
        self.assert_same([open_pairs(UNMADE), open_pairs(with_written(UNMADE, (0, 3))),
                          open_pairs(FULL[:3] + ((),)) == list(itertools.product(range(3), repeat=2))],
                         [[(0, 1)], [(0, 1), (0, 3), (1, 3), (3, 0), (3, 1), (3, 3)], True])

    def test_one_operand_and_rules_into_nothing(self):
        self.assert_same([open_pairs(ONE_WITH), open_pairs(ONE_WITHOUT), open_pairs(with_rules(SWAP, [(0, 0, -1)])),
                          open_pairs(LOOSE)],
                         [[], [(0, 0)], [], [(0, 0), (0, 2), (1, 0), (1, 2), (2, 0), (2, 1), (2, 2)]])

    def test_told_lists_belong_to_the_caller(self):
        for _ in range(2):
            told = open_pairs(TALLY)
            self.assert_same(told, [(0, 1), (1, 1), (2, 1)])
            told.clear()


class RanksOrRing(StrictCase):
    def assert_one(self, scheme):
        """Returns the number of operands of a longest stack, or None if a ring is told."""
        wanted = own_longest(scheme)
        row, ranks, ring = longest_row(scheme), find_ranks(scheme), find_ring(scheme)
        self.assertEqual([row is None, ranks is None, ring is not None], [wanted is None] * 3, scheme)
        if wanted is None:
            self.assertIs(type(ring), tuple)
            self.assertGreater(len(ring), 0)
            self.assertTrue(own_is_stack(scheme, ring + ring[:1]), (scheme, ring))
            self.assertIs(is_ring(scheme, ring), True)
            return None
        self.assertIs(type(row), tuple)
        self.assertTrue(own_is_stack(scheme, row), (scheme, row))
        self.assertEqual([len(row), max(ranks.values())], [wanted, wanted], scheme)
        self.assertIs(is_stack(scheme, row), True)
        self.assertEqual(sorted(ranks), own_made(scheme))
        self.assertTrue(all(type(key) is int and type(rank) is int and rank > 0 for key, rank in ranks.items()))
        self.assertTrue(all(ranks[a] > ranks[b] for a, b in own_open_pairs(scheme)), (scheme, ranks))
        self.assertIs(are_ranks(scheme, ranks), True)
        return wanted

    def test_many_schemes(self):
        found = [self.assert_one(scheme) for scheme in many_schemes(31)]
        self.assertEqual(set(found), {None, 1, 2, 3, 4, 5, 6})

    def test_told_one_by_one(self):
        schemes = (CHAIN, FORK, TAILED, SELF, UNMADE, ONE_WITH, ONE_WITHOUT)
        self.assertEqual([self.assert_one(scheme) for scheme in schemes], [6, 4, None, None, 2, 1, None])
        self.assert_same([longest_row(CHAIN), longest_row(FORK), longest_row(UNMADE), longest_row(ONE_WITH)],
                         [(3, 0, 5, 1, 4, 2), (0, 2, 3, 4), (0, 1), (0,)])
        self.assert_same([find_ranks(CHAIN), find_ranks(ONE_WITH), find_ranks(UNMADE)],
                         [{3: 6, 0: 5, 5: 4, 1: 3, 4: 2, 2: 1}, {0: 1}, {0: 2, 1: 1}])
        self.assert_same([find_ring(SELF), find_ring(ONE_WITHOUT), sorted(find_ring(TAILED))], [(4,), (0,), [1, 2, 3]])

    def test_each_order_of_a_chain(self):
        for order in itertools.permutations(range(6)):
            self.assert_same(longest_row(six_with_open(list(zip(order, order[1:])))), order)

    def test_each_order_of_a_ring(self):
        for order in itertools.permutations(range(5)):
            scheme = six_with_open(list(zip(order, order[1:] + order[:1])) + [(5, order[0])])
            self.assertIsNone(self.assert_one(scheme))
            self.assertEqual(len(find_ring(scheme)), 5)

    def test_the_same_rules_with_other_written_operands_by_turns(self):
        for _ in range(2):
            for scheme in (FULL, OPEN, TAILED, UNMADE, TALLY):
                for written in all_written(scheme):
                    self.assert_one(with_written(scheme, written))
        self.assert_same([find_ring(with_written(TALLY, (0, 2))), find_ring(with_written(TALLY, (1,))),
                          find_ranks(with_written(OPEN, (0,))), find_ranks(with_written(OPEN, (1,)))],
                         [None, (1,), {0: 1}, {1: 1, 3: 1}])

    def test_told_dicts_belong_to_the_caller(self):
        for scheme in (OPEN, CHAIN, UNMADE):
            before = copy.deepcopy(find_ranks(scheme))
            find_ranks(scheme).clear()
            self.assert_same(find_ranks(scheme), before)

    def test_equal_results_for_equal_arguments(self):
        for scheme in many_schemes(32):
            twin = copy.deepcopy(scheme)
            self.assert_same([longest_row(scheme), find_ranks(scheme), find_ring(scheme), long_row(scheme, 5)],
                             [longest_row(twin), find_ranks(twin), find_ring(twin), long_row(twin, 5)])
            self.assertEqual(scheme, twin)


class LongRow(StrictCase):
    def test_just_so_many_operands_or_none(self):
        for scheme in many_schemes(33):
            longest = own_longest(scheme)
            for n in [0, 1, 2, 3, 5, 6, 7, 59, 60] + ([] if longest is None else [longest, longest + 1]):
                row = long_row(scheme, n)
                if longest is None or n <= longest:
                    self.assertIs(type(row), tuple)
                    self.assertEqual(len(row), n)
                    self.assertTrue(own_is_stack(scheme, row), (scheme, row))
                    self.assertIs(is_stack(scheme, row), True)
                else:
                    self.assertIsNone(row)

    def test_told_one_by_one(self):
        self.assert_same([long_row(TALLY, 0), long_row(FULL, 0), len(long_row(FULL, 1)), long_row(FULL, 2),
                          long_row(CHAIN, 6), long_row(CHAIN, 7), long_row(ONE_WITHOUT, 60), long_row(ONE_WITH, 60)],
                         [(), (), 1, None, (3, 0, 5, 1, 4, 2), None, (0,) * 60, None])

    def test_somewhat_more_than_sixty(self):
        self.assertTrue(own_is_stack(TAILED, long_row(TAILED, 70)) and len(long_row(TAILED, 70)) == 70)


class IsStack(StrictCase):
    def test_all_short_tuples(self):
        for scheme in DOCUMENTED + [UNMADE, ONE_WITH, ONE_WITHOUT] + random_schemes(34, 12):
            for many in range(4):
                for row in itertools.product(range(-1, len(scheme[1]) + 1), repeat=many):
                    self.assertIs(is_stack(scheme, row), own_is_stack(scheme, row), (scheme, row))
                    self.assertIs(is_ring(scheme, row), many > 0 and own_is_stack(scheme, row + row[:1]), (scheme, row))

    def test_told_ones(self):
        for scheme in SCHEMES:
            self.assertIs(is_stack(scheme, ()), True)
            for operand in range(len(scheme[1])):
                self.assertIs(is_stack(scheme, (operand,)), operand in own_made(scheme))
        self.assert_same([is_stack(CHAIN, longest_row(CHAIN)), is_stack(CHAIN, longest_row(CHAIN)[::-1]),
                          is_stack(CHAIN, longest_row(CHAIN)[1:4]), is_stack(TALLY, (2,) + (1,) * 19000),
                          is_stack(TALLY, (2,) + (1,) * 19000 + (2,))], [True, False, True, True, False])

    def test_an_operand_that_is_changed(self):
        row = longest_row(CHAIN)
        for at, operand in itertools.product(range(6), range(-2, 8)):
            value = row[:at] + (operand,) + row[at + 1:]
            self.assertIs(is_stack(CHAIN, value), own_is_stack(CHAIN, value), value)

    def test_operands_that_are_not_made_or_not_there(self):
        self.assert_same([is_stack(UNMADE, value) for value in ((2,), (3,), (0, 2), (2, 2), (0, 1, 3), (4,), (-1,),
                                                                (10 ** 59,), (-(10 ** 59), 1))], [False] * 9)
        self.assert_same([is_stack(with_written(UNMADE, (0, 2)), (0, 2)), is_stack(FULL[:3] + ((),), (0, 3))],
                         [True, False])

    def test_lists_bools_and_other_values(self):
        for scheme, row in ((TALLY, (0, 1, 1)), (ONE_WITHOUT, (0, 0)), (TAILED, (0, 1, 2, 3, 1))):
            self.assertIs(is_stack(scheme, row), True)
            for value in replaced(row, as_list) + replaced(row, as_bool) + replaced(row, as_odd):
                self.assertIs(is_stack(scheme, value), False, repr(value)[:300])
        for value in ODD_VALUES + [0, 1, "01", [1, 1], {1: 1}, ((1, 1),), (1, (1,))]:
            self.assertIs(is_stack(TALLY, value), False, repr(value)[:300])


class IsRing(StrictCase):
    def assert_all(self, scheme, values, wanted):
        for value in values:
            self.assertIs(is_ring(scheme, value), wanted, repr(value)[:300])

    def test_turned_about_and_gone_round_twice(self):
        self.assert_all(TAILED, [(1, 2, 3), (2, 3, 1), (3, 1, 2), (1, 2, 3, 1, 2, 3), (2, 3, 1) * 3000], True)
        self.assert_all(TAILED, [(), (3, 2, 1), (1, 2), (2, 3), (1,), (0, 1, 2, 3), (1, 2, 3, 4), (1, 2, 3, 1),
                                 (1, 2, 3) * 3000 + (1,), (4, 5), (2, 3, 1, 5)], False)
        self.assert_all(SELF, [(4,), (4, 4), (4,) * 19000], True)
        self.assert_all(SELF, [(0,), (0, 4), (4, 5), (4, 4, 0), ()], False)

    def test_an_operand_that_is_changed(self):
        for at, operand in itertools.product(range(3), range(-2, 8)):
            value = (1, 2, 3)[:at] + (operand,) + (1, 2, 3)[at + 1:]
            self.assert_all(TAILED, [value], value == (1, 2, 3))

    def test_operands_that_are_not_made_or_not_there(self):
        self.assert_all(UNMADE, [(2,), (3,), (2, 2), (4,), (-1,), (0, 1), (10 ** 59,)], False)
        self.assert_all(with_written(UNMADE, (0, 2)), [(2,), (2, 0), (0, 2), (0, 2, 2)], True)

    def test_lists_bools_and_other_values(self):
        for scheme, ring in ((TALLY, (1, 1)), (ONE_WITHOUT, (0,)), (TAILED, (1, 2, 3))):
            self.assert_all(scheme, [ring], True)
            self.assert_all(scheme, replaced(ring, as_list) + replaced(ring, as_bool) + replaced(ring, as_odd), False)
        self.assert_all(TALLY, ODD_VALUES + [(), 0, 1, "1", [1], {1: 1}, ((1,),), (1, (1,))], False)

    def test_the_value_stays_as_it_is(self):
        for value in ([1, 1], ([1], 1), {1: [1]}):
            before = copy.deepcopy(value)
            self.assert_same([is_ring(TALLY, value), is_stack(TALLY, value), are_ranks(TALLY, value)], [False] * 3)
            self.assert_same(value, before)


class AreRanks(StrictCase):
    def assert_all(self, scheme, values, wanted):
        for value in values:
            self.assertIs(are_ranks(scheme, value), wanted, (scheme, repr(value)[:300]))

    def test_all_small_ranks(self):
        for scheme in (OPEN, FULL, BAD, UNMADE, SWAP, ONE_WITH, *random_schemes(35, 30)):
            keys = own_made(scheme)
            for numbers in itertools.product(range(4), repeat=len(keys)):
                ranks = dict(zip(keys, numbers))
                wanted = min(numbers) > 0 and all(ranks[a] > ranks[b] for a, b in own_open_pairs(scheme))
                self.assert_all(scheme, [ranks], wanted)

    def test_a_number_that_is_lowered(self):
        told = find_ranks(CHAIN)
        for operand, rank in told.items():
            self.assert_all(CHAIN, [{**told, operand: rank - 1}, {**told, operand: 0}, {**told, operand: -1}], False)
        self.assert_all(CHAIN, [told, {**told, 3: 7}, {**told, 3: 10 ** 59}, {k: rank + 4 for k, rank in told.items()}],
                        True)
        self.assert_all(CHAIN, [{**told, 0: 6}, {**told, 2: 2}], False)

    def test_where_there_is_a_ring_nothing_is_ranks(self):
        for scheme in (TALLY, SELF, TAILED, ONE_WITHOUT):
            keys = own_made(scheme)
            self.assert_all(scheme, [dict.fromkeys(keys, 1), {k: k + 1 for k in keys}, {k: 9 - k for k in keys}, {}],
                            False)

    def test_keys_left_out_and_put_in(self):
        for scheme in (OPEN, CHAIN, UNMADE, ONE_WITH):
            told = find_ranks(scheme)
            self.assert_all(scheme, [{k: told[k] for k in told if k != operand} for operand in told], False)
            others = [key for key in (-1, 0, 1, 2, 3, 6, 10 ** 59, None, "0", (), (0,), "") if key not in told]
            self.assert_all(scheme, [{**told, key: 1} for key in others], False)

    def test_odd_keys_and_numbers(self):
        for scheme in (OPEN, UNMADE, ONE_WITH):
            told = find_ranks(scheme)
            self.assert_all(scheme, replaced(told, as_bool), False)
            self.assert_all(scheme, [value for value in replaced(told, as_odd) if not holds_integers(value)], False)
        self.assert_all(OPEN, [{0: 1, True: 1, 2: 2, 3: 1}, {0: True, 1: 1, 2: 2, 3: 1}, {0: 1, 1: 1, 2: "2", 3: 1}],
                        False)
        self.assert_all(ONE_WITH, [{False: 1}, {0: True}, {0: None}, {0: [1]}, {0: (1,)}], False)

    def test_other_values(self):
        for scheme in (OPEN, FULL, ONE_WITH):
            self.assert_all(scheme, ODD_VALUES + [(), 0, 1, [1, 1, 2, 1], (1, 1, 2, 1),
                                                  tuple(find_ranks(OPEN).items())], False)


if __name__ == "__main__":
    unittest.main()
