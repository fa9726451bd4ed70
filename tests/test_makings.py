import copy
import itertools
import unittest

from samples import (BAD, DOCUMENTED, DOUBLINGS, FULL, LOOSE, ODD_VALUES, ROUNDS, SWAP, TALLY, StrictCase, all_written,
                     as_bool, as_list, as_neighbour, as_odd, random_schemes, replaced, with_rules,
                     with_written)
from searches import own_made, own_making_lengths, own_rules
from stackedputs.makings import are_lengths, find_making, is_making, made, making_lengths, row_of, steps_of

# 4 is made in 7 steps first and 5 of it in 9; only the last rule makes 4 in 3, and so 5 in 5.
DETOURS = (1, ((0, 0),) * 6, (0, 1), ((0, 0, 2), (0, 2, 3), (0, 3, 4), (0, 4, 5), (1, 0, 4)))
# The same, but each of the two ways to 4 needs rules.
LATE = (1, ((0, 0),) * 6, (0,), ((0, 0, 1), (0, 1, 2), (0, 2, 3), (0, 3, 4), (0, 4, 5), (1, 1, 4)))
# 3 and 4 are only made of each other; 5 into nothing makes nothing.
NEVER = (1, ((0, -1),) * 6, (0, 1), ((0, 1, 2), (0, 2, -1), (2, 3, 4), (3, 4, 3), (4, 0, 3), (5, 5, 5)))
SCHEMES = DOCUMENTED + [DOUBLINGS, ROUNDS, DETOURS, LATE, NEVER] + random_schemes(7, 60)


def own_is_making(scheme, k, value):
    if isinstance(value, int):
        return not isinstance(value, bool) and value == k and value in scheme[2]
    if not isinstance(value, tuple) or len(value) != 3 or type(value[0]) is not int or value[0] != k:
        return False
    return any(c == k and own_is_making(scheme, a, value[1]) and own_is_making(scheme, b, value[2])
               for (a, b), c in own_rules(scheme).items())


def all_makings(scheme, depth):
    """All makings that are nested at most so deep, of each made operand."""
    if depth == 0:
        return list(scheme[2])
    lower = all_makings(scheme, depth - 1)
    heads = [(item[0] if isinstance(item, tuple) else item, item) for item in lower]
    found = {item: True for item in scheme[2]}
    for (a, left), (b, right) in itertools.product(heads, repeat=2):
        c = own_rules(scheme).get((a, b), -1)
        if c >= 0:
            found[c, left, right] = True
    return list(found)


class Examples(StrictCase):
    def test_made_and_find_making(self):
        self.assert_same(
            [made(TALLY), made(FULL), find_making(FULL, 2), steps_of(find_making(FULL, 3)),
             find_making(FULL[:3] + ((),), 3)],
            [[0, 1, 2], [0, 1, 2, 3], 2, 3, None])

    def test_rows_and_lengths(self):
        self.assert_same(
            [row_of((0, (3, 1, 1), 0)), steps_of((0, (3, 1, 1), 0)), making_lengths(FULL) == {0: 1, 1: 1, 2: 1, 3: 3}],
            [(1, 1, 0), 5, True])

    def test_is_making_and_are_lengths(self):
        self.assert_same(
            [is_making(FULL, 0, (0, (3, 1, 1), 0)), is_making(FULL, 3, 3), is_making(FULL, 3, (3, 2, 1)),
             are_lengths(FULL, {0: 1, 1: 1, 2: 0, 3: 2}), are_lengths(FULL, {0: 1, 1: 1, 2: 1, 3: 4})],
            [True, False, False, True, False])


class Made(StrictCase):
    def test_against_the_tests_own_closure(self):
        for scheme in SCHEMES:
            for written in all_written(scheme):
                self.assert_same(made(with_written(scheme, written)), own_made(with_written(scheme, written)))

    def test_told_one_by_one(self):
        self.assert_same([made(NEVER), made(DETOURS), made(LATE), made(SWAP), made(LOOSE), made(FULL[:3] + ((),))],
                         [[0, 1, 2], [0, 1, 2, 3, 4, 5], [0, 1, 2, 3, 4, 5], [0], [0, 1, 2], [0, 1, 2]])

    def test_asked_by_turns(self):
        for _ in range(3):
            self.assert_same([made(with_written(FULL, (0,))), made(with_written(FULL, (1,))),
                              made(with_written(FULL, (1, 2))), made(with_written(FULL, (0, 1)))],
                             [[0], [1, 3], [0, 1, 2, 3], [0, 1, 3]])
            self.assert_same([find_making(with_written(FULL, (0,)), 3), find_making(with_written(FULL, (1,)), 3),
                              find_making(with_written(FULL, (3,)), 3)], [None, (3, 1, 1), 3])
            self.assert_same([making_lengths(with_written(FULL, (1, 2))), making_lengths(with_written(FULL, (3,)))],
                             [{0: 3, 1: 1, 2: 1, 3: 3}, {3: 1}])

    def test_told_lists_and_dicts_belong_to_the_caller(self):
        for _ in range(2):
            told = made(FULL)
            self.assert_same(told, [0, 1, 2, 3])
            told.clear()
            told = making_lengths(FULL)
            self.assert_same(told, {0: 1, 1: 1, 2: 1, 3: 3})
            told.clear()


class RowsAndSteps(StrictCase):
    def test_told_one_by_one(self):
        self.assert_same([row_of(2), steps_of(2), row_of((3, 0, 1)), steps_of((3, 0, 1)),
                          row_of((0, 2, (3, (3, 0, 1), 1))), steps_of((0, 2, (3, (3, 0, 1), 1))),
                          row_of((3, (3, 0, 1), (3, 1, 1))), steps_of((3, (3, 0, 1), (3, 1, 1)))],
                         [(2,), 1, (0, 1), 3, (2, 0, 1, 1), 7, (0, 1, 1, 1), 7])

    def test_a_making_that_is_nested_deep(self):
        to_the_left, to_the_right = 0, 0
        for _ in range(5000):
            to_the_left, to_the_right = (0, to_the_left, 1), (0, 1, to_the_right)
        self.assert_same([row_of(to_the_left), steps_of(to_the_left)], [(0,) + (1,) * 5000, 10001])
        self.assert_same([row_of(to_the_right), steps_of(to_the_right)], [(1,) * 5000 + (0,), 10001])


class FindMaking(StrictCase):
    def test_against_the_tests_own_search(self):
        for scheme in SCHEMES:
            wanted = own_making_lengths(scheme, 63 if scheme in (DOUBLINGS, ROUNDS) else 31)
            self.assert_same(making_lengths(scheme), wanted)
            self.assertIs(are_lengths(scheme, wanted), True)
            for k in range(len(scheme[1])):
                making = find_making(scheme, k)
                if k in wanted:
                    self.assertIs(is_making(scheme, k, making), True)
                    self.assertTrue(own_is_making(scheme, k, making), (scheme, k, making))
                    self.assertEqual(steps_of(making), wanted[k])
                else:
                    self.assertIsNone(making)

    def test_written_operands_that_are_also_made_by_rules(self):
        self.assert_same([find_making(FULL, k) for k in range(3)], [0, 1, 2])
        self.assert_same([find_making(with_written(FULL, (0, 1, 3)), 3), find_making(with_written(FULL, (1, 3)), 3),
                          making_lengths(with_written(FULL, (1, 3)))], [3, 3, {1: 1, 3: 1}])

    def test_operands_that_are_never_made(self):
        self.assert_same([find_making(NEVER, k) for k in range(6)], [0, 1, (2, 0, 1), None, None, None])
        self.assert_same(making_lengths(NEVER), {0: 1, 1: 1, 2: 3})

    def test_a_longer_path_comes_first(self):
        self.assert_same(making_lengths(DETOURS), {0: 1, 1: 1, 2: 3, 3: 5, 4: 3, 5: 5})
        self.assert_same(making_lengths(LATE), {0: 1, 1: 3, 2: 5, 3: 7, 4: 7, 5: 9})
        self.assert_same([find_making(DETOURS, 4), find_making(DETOURS, 5)], [(4, 1, 0), (5, 0, (4, 1, 0))])
        self.assert_same(steps_of(find_making(LATE, 5)), 9)

    def test_chains_of_doublings(self):
        for scheme in (DOUBLINGS, ROUNDS):
            self.assert_same(making_lengths(scheme), {0: 1, 1: 3, 2: 7, 3: 15, 4: 31, 5: 63})
            self.assert_same([steps_of(find_making(scheme, k)) for k in range(6)], [1, 3, 7, 15, 31, 63])
            self.assert_same(row_of(find_making(scheme, 5)), (0,) * 32)

    def test_chains_of_doublings_in_each_order_of_operands(self):
        for order in itertools.permutations(range(6)):
            rules = [(order[k], order[k], order[k + 1]) for k in range(5)]
            scheme = with_rules(with_written(DOUBLINGS, (order[0],)), rules)
            self.assert_same(making_lengths(scheme), {order[k]: 2 ** (k + 1) - 1 for k in range(6)})
            self.assert_same(steps_of(find_making(scheme, order[5])), 63)

    def test_rules_that_are_wrong_make_operands_too(self):
        self.assert_same(find_making(BAD[:3] + (((1, 1, 2),),), 2), 2)
        self.assert_same(find_making((1, ((0, 0), (-1, -1)), (0,), ((0, 0, 1),)), 1), (1, 0, 0))

    def test_equal_results_for_equal_arguments(self):
        for scheme in SCHEMES:
            for k in range(len(scheme[1])):
                self.assert_same(find_making(scheme, k), find_making(copy.deepcopy(scheme), k))


class IsMaking(StrictCase):
    def test_makings_that_are_not_the_shortest(self):
        self.assert_same([is_making(FULL, 3, (3, 0, 1)), is_making(FULL, 3, (3, (3, 0, 1), (3, 3, 1)))], [True, False])
        self.assert_same([is_making(FULL, 3, (3, (3, 0, 1), (3, 1, 1))), is_making(FULL, 1, 1),
                          is_making(FULL, 0, (0, (0, 2, 1), (0, (2, 1, 2), 0))), is_making(FULL, 0, (0, 3, 0)),
                          is_making(with_written(FULL, (3,)), 3, (3, 3, 3))], [True, True, True, False, True])

    def test_all_small_makings_and_what_is_near_them(self):
        for scheme in (FULL, BAD, LOOSE, NEVER, DETOURS):
            makings = all_makings(scheme, 2)
            self.assertGreater(len(makings), 2)
            for making in makings[:40] + makings[-40:]:
                head = making[0] if isinstance(making, tuple) else making
                self.assertIs(is_making(scheme, head, making), True)
                for value in [making] + replaced(making, as_neighbour):
                    for k in range(len(scheme[1])):
                        self.assertIs(is_making(scheme, k, value), own_is_making(scheme, k, value), (scheme, k, value))

    def test_each_operand_has_its_own_makings(self):
        for k in range(4):
            self.assertEqual([is_making(FULL, k, value) for value in (0, 1, 2, 3)], [k == 0, k == 1, k == 2, False])
            self.assertEqual([is_making(FULL, k, value) for value in ((0, 1, 0), (2, 1, 2), (3, 1, 1), (1, 1, 1))],
                             [k == 0, k == 2, k == 3, False])

    def test_a_rule_that_is_left_out(self):
        making = find_making(DOUBLINGS, 5)
        self.assertIs(is_making(DOUBLINGS, 5, making), True)
        for at in range(5):
            rules = DOUBLINGS[3]
            self.assertIs(is_making(with_rules(DOUBLINGS, rules[:at] + rules[at + 1:]), 5, making), False)
            other = rules[:at] + ((at, at, -1),) + rules[at + 1:]
            self.assertIs(is_making(with_rules(DOUBLINGS, other), 5, making), False)

    def test_a_part_that_is_changed_at_any_depth(self):
        for scheme in (DOUBLINGS, ROUNDS):
            making = find_making(scheme, 5)
            for change in (as_list, as_bool, as_neighbour):
                for value in replaced(making, change):
                    self.assertIs(is_making(scheme, 5, value), False, value)
        making = (0, (3, 1, 1), 0)
        for value in replaced(making, as_odd):
            self.assertIs(is_making(FULL, 0, value), False, repr(value)[:300])

    def test_parts_left_out_or_too_many(self):
        making = (0, (3, 1, 1), 0)
        for value in replaced(making, lambda value: [value[:2], value[1:], value + (1,), (value,), ()]
                              if isinstance(value, tuple) else [(value,), (value, value)]):
            self.assertIs(is_making(FULL, 0, value), False, value)

    def test_rules_into_nothing_make_nothing(self):
        for value in ((-1, 1, 1), (-1, (-1, 1, 1), 1)):
            for k in range(3):
                self.assertIs(is_making(LOOSE, k, value), False)
        self.assertIs(is_making(LOOSE, 0, (0, 0, (-1, 1, 1))), False)

    def test_a_making_that_is_nested_as_deep_as_any_value(self):
        value = 0
        for _ in range(1000):
            value = (0, value, 1)
        self.assertIs(is_making(LOOSE, 0, value), True)
        self.assertIs(is_making(LOOSE, 0, (0, value, 2)), False)
        self.assertIs(is_making(LOOSE, 1, value), False)

    def test_other_values(self):
        for scheme in (TALLY, FULL, SWAP):
            for k in range(len(scheme[1])):
                for value in ODD_VALUES + [(), (0,), (0, 0), [0, 0, 0], {0: (0, 0)}, "000", ("0", "0", "0"), -1, 6]:
                    self.assertIs(is_making(scheme, k, value), False, repr(value)[:300])
                    self.assertIs(is_making(scheme, k, (value, 0, 0)), False, repr(value)[:300])

    def test_the_value_stays_as_it_is(self):
        for value in ((0, [3, 1, 1], 0), [0, (3, 1, 1), 0], (0, (3, {1: [1]}, 1), 0)):
            before = copy.deepcopy(value)
            is_making(FULL, 0, value)
            self.assert_same(value, before)


class AreLengths(StrictCase):
    def assert_all(self, scheme, values, wanted):
        for value in values:
            self.assertIs(are_lengths(scheme, value), wanted, repr(value)[:300])

    def test_each_bound(self):
        self.assert_all(FULL, [{0: a, 1: b, 2: c, 3: d} for a in (0, 1) for b in (0, 1) for c in (0, 1)
                               for d in range(min(a, b) + b + 2)], True)
        self.assert_all(FULL, [{0: a, 1: b, 2: 0, 3: min(a, b) + b + 2} for a in (0, 1) for b in (0, 1)], False)
        for operand in range(3):
            self.assert_all(FULL, [{0: 1, 1: 1, 2: 1, 3: 3, operand: 2}, {0: 1, 1: 1, 2: 1, 3: 3, operand: 10 ** 59},
                                   {0: 1, 1: 1, 2: 1, 3: 3, operand: -1}], False)

    def test_each_number_of_the_told_ones_is_a_bound(self):
        for scheme in SCHEMES:
            told = making_lengths(scheme)
            self.assert_all(scheme, [told, {operand: 0 for operand in told}], True)
            self.assert_all(scheme, [{**told, operand: told[operand] + 1} for operand in told], False)
            self.assert_all(scheme, [{**told, operand: -1} for operand in told], False)

    def test_lengths_below_the_shortest_ones(self):
        self.assert_all(DOUBLINGS, [{0: 1, 1: 2, 2: 5, 3: 11, 4: 23, 5: 47}, {0: 0, 1: 1, 2: 3, 3: 7, 4: 15, 5: 31},
                                    {0: 1, 1: 3, 2: 7, 3: 15, 4: 31, 5: 62}, dict.fromkeys(range(6), 0)], True)
        self.assert_all(DOUBLINGS, [{0: 0, 1: 1, 2: 3, 3: 7, 4: 15, 5: 32}, {0: 1, 1: 2, 2: 6, 3: 11, 4: 23, 5: 47},
                                    {0: 1, 1: 3, 2: 6, 3: 13, 4: 28, 5: 55}], False)

    def test_random_numbers(self):
        for scheme in (NEVER, FULL, with_written(FULL, (1, 2))):
            keys = made(scheme)
            for numbers in itertools.product(range(-1, 4), repeat=len(keys)):
                value = dict(zip(keys, numbers))
                wanted = min(numbers) >= 0 and all(value[k] <= 1 for k in scheme[2]) and all(
                    value[c] <= value[a] + value[b] + 1
                    for a, b, c in scheme[3] if a in value and b in value and c >= 0)
                self.assertIs(are_lengths(scheme, value), wanted, (scheme, value))

    def test_keys_left_out_and_put_in(self):
        for scheme in (FULL, NEVER, SWAP, TALLY):
            told = making_lengths(scheme)
            for operand in told:
                self.assert_all(scheme, [{k: told[k] for k in told if k != operand}], False)
            for key in [-1, 6, 10 ** 59, *range(len(scheme[1]))]:
                if key not in told:
                    self.assert_all(scheme, [{**told, key: 0}], False)
        self.assert_all(SWAP, [{}], False)

    def test_the_order_of_the_keys_means_nothing(self):
        self.assert_all(FULL, [{3: 3, 1: 1, 2: 1, 0: 1}, {2: 1, 3: 3, 0: 1, 1: 1}], True)

    def test_odd_keys_and_numbers(self):
        told = making_lengths(FULL)
        for change in (as_bool, as_odd):
            self.assert_all(FULL, replaced(told, change), False)
        self.assert_all(FULL, [{False: 1, 1: 1, 2: 1, 3: 3}, {0: 1, True: 1, 2: 1, 3: 3}, {0: True, 1: 1, 2: 1, 3: 3},
                               {0: 1, 1: 1, 2: False, 3: 3}, {"0": 1, 1: 1, 2: 1, 3: 3}, {(0,): 1, 1: 1, 2: 1, 3: 3},
                               {**told, None: 1}, {**told, "3": 3}, {**told, (): 0}, {0: (1,), 1: 1, 2: 1, 3: 3}],
                        False)

    def test_other_values(self):
        for scheme in (FULL, TALLY, SWAP):
            values = ODD_VALUES + [(), 0, 1, [1, 1, 1, 3], (1, 1, 1, 3), tuple(making_lengths(FULL).items())]
            self.assert_all(scheme, [value for value in values if not (scheme == SWAP and value == {0: 0})], False)
        self.assert_all(SWAP, [{0: 0}, {0: 1}], True)

    def test_the_value_stays_as_it_is(self):
        for value in (making_lengths(FULL), {0: [1], 1: {2: 3}}, [[1]]):
            before = copy.deepcopy(value)
            are_lengths(FULL, value)
            self.assert_same(value, before)


if __name__ == "__main__":
    unittest.main()
