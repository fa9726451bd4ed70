import copy
import itertools
import unittest

from samples import (DOCUMENTED, DOUBLINGS, FULL, LOOSE, ODD_VALUES, SWAP, TALLY, StrictCase, all_written, as_bool,
                     as_list, as_odd, random_schemes, replaced, with_written)
from searches import own_ends, own_made, own_rules
from stackedputs.ends import ends_of
from stackedputs.overlaps import are_joins, end_alike, find_joins, find_parting, is_parting, overlaps

ODD = TALLY[:3] + (((0, 1, 2), (1, 1, 1)),)
# The overlap (0, 1, 0) ends as (0, 2) or as (0,); (1, 0, 1) as (2, 1), which is (0,), or as (1,).
SEVERAL = (1, ((0, 0),) * 3, (0, 1), ((0, 1, -1), (1, 0, 2), (1, 2, 1), (2, 1, 0)))
# One end is nothing at all, or one operand: (0, 0, 0) ends as () or as (1, 0) does.
VANISHING = (1, ((0, 0),) * 3, (0, 1), ((0, 0, 1), (0, 1, -1), (1, 0, 2)))
PAIRS = (1, ((0, -1),) * 3, (0, 1, 2), ((0, 0, -1), (1, 1, -1), (2, 2, -1)))
# The rules of 2 and 3 part, but these are not made; with 2 written they are.
UNMADE = (1, ((0, 0),) * 4, (0,), ((0, 0, 1), (0, 1, 1), (1, 0, 1), (1, 1, 1), (2, 2, 3), (3, 2, 0), (2, 3, 1)))
ALIKE = [TALLY, FULL, LOOSE, SWAP, PAIRS, UNMADE, (1, ((0, 0),), (0,), ((0, 0, 0),))]
PARTING = [ODD, SEVERAL, VANISHING, with_written(UNMADE, (0, 2)), with_written(UNMADE, (2,))]
SCHEMES = DOCUMENTED + [DOUBLINGS] + ALIKE + PARTING


def own_overlaps(scheme):
    rules, operands = own_rules(scheme), own_made(scheme)
    return [row for row in itertools.product(operands, repeat=3) if row[:2] in rules and row[1:] in rules]


def own_joins(scheme):
    """The joins, from the two rows to which each overlap is merged, or None."""
    joins = {}
    for a, b, c in own_overlaps(scheme):
        left, right = own_rules(scheme)[a, b], own_rules(scheme)[b, c]
        both = own_ends(scheme, (left, c)[left < 0:]) & own_ends(scheme, (a, right)[:2 - (right < 0)])
        if not both:
            return None
        joins[a, b, c], = both
    return joins


def own_is_parting(scheme, row, end, other):
    return (len(row) == 3 and set(row) <= set(own_made(scheme)) and end < other
            and {end, other} <= own_ends(scheme, row))


def rows_up_to(operands, most):
    return [row for many in range(most + 1) for row in itertools.product(operands, repeat=many)]


class Examples(StrictCase):
    def test_schemes_whose_rows_end_alike(self):
        self.assert_same(
            [end_alike(TALLY), end_alike(FULL), end_alike(LOOSE), len(overlaps(TALLY)), find_parting(FULL),
             find_joins(LOOSE) == {(0, 1, 1): (0,), (1, 1, 1): (1,)}],
            [True, True, True, 12, None, True])

    def test_a_scheme_whose_rows_do_not(self):
        self.assert_same([overlaps(ODD), end_alike(ODD), find_joins(ODD), find_parting(ODD)],
                         [[(0, 1, 1), (1, 1, 1)], False, None, ((0, 1, 1), (2,), (2, 1))])

    def test_are_joins_and_is_parting(self):
        self.assert_same(
            [are_joins(LOOSE, {(0, 1, 1): (0,), (1, 1, 1): (1,)}), are_joins(LOOSE, {(1, 1, 1): (1,)}),
             is_parting(ODD, ((0, 1, 1), (2, 1), (2,)))],
            [True, False, False])


class Overlaps(StrictCase):
    def test_against_the_tests_own(self):
        for scheme in SCHEMES + random_schemes(50, 200):
            self.assert_same(overlaps(scheme), own_overlaps(scheme))

    def test_told_one_by_one(self):
        self.assert_same([overlaps(SWAP), overlaps(LOOSE), overlaps(PAIRS), overlaps(UNMADE) == [
            row for row in itertools.product((0, 1), repeat=3)], overlaps(DOUBLINGS)],
            [[], [(0, 1, 1), (1, 1, 1)], [(0, 0, 0), (1, 1, 1), (2, 2, 2)], True, [(k, k, k) for k in range(5)]])

    def test_operands_that_are_not_made_have_none(self):
        self.assert_same([overlaps(with_written(LOOSE, (0,))), overlaps(with_written(LOOSE, (1,))),
                          len(overlaps(FULL)), len(overlaps(with_written(FULL, (0,)))),
                          overlaps(with_written(UNMADE, (3,)))], [[], [(1, 1, 1)], 64, 1, []])

    def test_told_lists_belong_to_the_caller(self):
        for _ in range(2):
            told = overlaps(LOOSE)
            self.assert_same(told, [(0, 1, 1), (1, 1, 1)])
            told.clear()


class JoinsOrParting(StrictCase):
    def assert_one(self, scheme):
        """Returns whether joins are told."""
        wanted = own_joins(scheme)
        joins, parting = find_joins(scheme), find_parting(scheme)
        self.assert_same(joins, wanted)
        self.assertIs(end_alike(scheme), wanted is not None)
        self.assertIs(parting is None, wanted is not None, scheme)
        if wanted is not None:
            self.assertIs(are_joins(scheme, joins), True)
            return True
        row, end, other = parting
        self.assertIs(type(parting), tuple)
        self.assertTrue(own_is_parting(scheme, row, end, other), (scheme, parting))
        self.assertIs(is_parting(scheme, parting), True)
        return False

    def test_told_ones(self):
        self.assertEqual([self.assert_one(scheme) for scheme in ALIKE], [True] * len(ALIKE))
        self.assertEqual([self.assert_one(scheme) for scheme in PARTING], [False] * len(PARTING))
        self.assert_same([find_joins(SWAP), find_joins(PAIRS), find_joins(UNMADE)],
                         [{}, {(k, k, k): (k,) for k in range(3)}, {row: (1,) for row in overlaps(UNMADE)}])
        self.assert_same(find_parting(VANISHING), ((0, 0, 0), (), (2,)))

    def test_random_schemes(self):
        found = [self.assert_one(scheme) for scheme in random_schemes(51, 600)]
        self.assertGreater(found.count(True), 150)
        self.assertGreater(found.count(False), 150)

    def test_end_alike_against_all_short_rows(self):
        for scheme in SCHEMES + random_schemes(52, 90):
            operands = own_made(scheme)
            most = 5 if len(operands) < 4 else 3
            alike = all(len(own_ends(scheme, row)) == 1 for row in rows_up_to(operands, most))
            self.assertIs(end_alike(scheme), alike, scheme)

    def test_with_joins_longer_rows_have_one_end(self):
        for scheme in [scheme for scheme in random_schemes(53, 60) if end_alike(scheme)]:
            operands = own_made(scheme)
            for row in rows_up_to(operands[:2], 6):
                self.assertEqual(len(ends_of(scheme, row)), 1, (scheme, row))

    def test_rules_of_operands_that_are_not_made_mean_nothing(self):
        for _ in range(3):
            self.assert_same([end_alike(UNMADE), end_alike(with_written(UNMADE, (0, 2))),
                              end_alike(with_written(UNMADE, (2,))), end_alike(with_written(UNMADE, (1,)))],
                             [True, False, False, True])

    def test_the_first_written_operand_alone_by_turns(self):
        for _ in range(2):
            for scheme in SCHEMES + random_schemes(54, 30):
                self.assert_one(scheme)
                self.assert_one(with_written(scheme, scheme[2][:1]))
        for scheme in (FULL, ODD, UNMADE, SEVERAL):
            for written in all_written(scheme):
                self.assert_one(with_written(scheme, written))
        self.assert_same([find_joins(with_written(ODD, (0,))), find_joins(with_written(ODD, (1,))), find_joins(ODD)],
                         [{}, {(1, 1, 1): (1,)}, None])

    def test_told_dicts_belong_to_the_caller(self):
        for scheme in (LOOSE, FULL, SWAP):
            before = copy.deepcopy(find_joins(scheme))
            told = find_joins(scheme)
            told[9] = 9
            self.assert_same(find_joins(scheme), before)
            self.assertIs(are_joins(scheme, before), True)

    def test_equal_results_for_equal_arguments(self):
        for scheme in SCHEMES + random_schemes(55, 90):
            twin = copy.deepcopy(scheme)
            self.assert_same([find_joins(scheme), find_parting(scheme)], [find_joins(twin), find_parting(twin)])
            self.assertEqual(scheme, twin)


class AreJoins(StrictCase):
    def assert_all(self, scheme, values, wanted):
        for value in values:
            self.assertIs(are_joins(scheme, value), wanted, (scheme, repr(value)[:300]))

    def test_an_overlap_left_out_or_put_in(self):
        for scheme in (LOOSE, TALLY, FULL, PAIRS, UNMADE):
            told = find_joins(scheme)
            self.assert_all(scheme, [told, dict(reversed(told.items()))], True)
            self.assert_all(scheme, [{k: told[k] for k in told if k != overlap} for overlap in told], False)
            others = [row for row in rows_up_to(range(-1, len(scheme[1]) + 1), 3) if row not in told]
            self.assert_all(scheme, [{**told, row: (0,)} for row in others[:200]] + [{}], False)
            self.assert_all(scheme, [{**told, row: ends_of(scheme, row)[0]} for row in [(0, 2, 1), (2, 1, 0), (1, 1)]
                                     if row not in told and max(row) < len(scheme[1])], False)
        self.assert_all(SWAP, [{}], True)
        self.assert_all(SWAP, [{(0, 0, 0): (0, 0, 0)}, {(): ()}], False)

    def test_an_end_that_is_changed(self):
        for scheme in (LOOSE, FULL, PAIRS):
            told = find_joins(scheme)
            for overlap, end in told.items():
                others = [row for row in rows_up_to(range(-1, len(scheme[1]) + 1), 2) if row != end]
                self.assert_all(scheme, [{**told, overlap: other} for other in others + [overlap]], False)

    def test_where_rows_part_nothing_is_joins(self):
        for scheme in PARTING:
            rows = own_overlaps(scheme)
            self.assert_all(scheme, [{}, {row: ends_of(scheme, row)[0] for row in rows},
                                     {row: ends_of(scheme, row)[-1] for row in rows}, None], False)

    def test_lists_bools_and_odd_values_at_any_depth(self):
        for scheme in (LOOSE, PAIRS):
            told = find_joins(scheme)
            for change in (as_list, as_bool, as_odd):
                self.assert_all(scheme, replaced(told, change), False)
        self.assert_all(LOOSE, [{(0, True, 1): (0,), (1, 1, 1): (1,)}, {(0, 1, 1): (False,), (1, 1, 1): (1,)},
                                {(0, 1, 1): [0], (1, 1, 1): (1,)}, {(0, 1, 1): 0, (1, 1, 1): 1},
                                {(False, True, True): (0,), (True, True, True): (True,)}], False)

    def test_other_values(self):
        for scheme in (LOOSE, TALLY, ODD):
            self.assert_all(scheme, ODD_VALUES + [(), 0, tuple(find_joins(LOOSE).items()), [(0, 1, 1), (1, 1, 1)],
                                                  "011", {"011": "0", "111": "1"}], False)
        self.assert_all(SWAP, [value for value in ODD_VALUES if value != {}] + [(), [], None, 0, False, ""], False)


class IsParting(StrictCase):
    def assert_all(self, scheme, values, wanted):
        for value in values:
            self.assertIs(is_parting(scheme, value), wanted, (scheme, repr(value)[:300]))

    def test_all_rows_and_ends(self):
        for scheme in (ODD, SEVERAL, VANISHING, UNMADE, LOOSE, with_written(UNMADE, (0, 2)), with_written(ODD, (1,))):
            for row in rows_up_to(range(len(scheme[1])), 3):
                ends = sorted(own_ends(scheme, row)) + [(), (0,), (1, 0), row]
                for end, other in itertools.product(ends, repeat=2):
                    self.assert_all(scheme, [(row, end, other)], own_is_parting(scheme, row, end, other))

    def test_ends_turned_about_twice_the_same_or_none(self):
        self.assert_all(ODD, [((0, 1, 1), (2,), (2, 1))], True)
        self.assert_all(ODD, [((0, 1, 1), (2, 1), (2,)), ((0, 1, 1), (2,), (2,)), ((0, 1, 1), (2, 1), (2, 1)),
                              ((0, 1, 1), (0, 1), (2,)), ((0, 1, 1), (), (2,)), ((0, 1, 1), (2,), (2, 2)),
                              ((0, 1, 1), (-1,), (2,)), ((0, 1, 1), (2, 1), (3,)), ((1, 1, 1), (1,), (1, 1)),
                              ((1, 0, 1), (2,), (2, 1)), ((0, 1, 1, 1), (2,), (2, 1)), ((0, 1), (2,), (2, 1))], False)
        for scheme in PARTING:
            row, end, other = find_parting(scheme)
            self.assert_all(scheme, [(row, other, end), (row, end, end), (row, other, other), (row, end, row),
                                     (row[:2], end, other), (row + row[:1], end, other)], False)

    def test_longer_rows_and_rows_that_are_not_made(self):
        longer = (0, 1, 1, 1)
        self.assertEqual(len(own_ends(ODD, longer)) > 1, True)
        ends = sorted(own_ends(ODD, longer))
        self.assert_all(ODD, [(longer, ends[0], ends[1])], False)
        row, end, other = find_parting(with_written(UNMADE, (0, 2)))
        self.assert_all(with_written(UNMADE, (0, 2)), [(row, end, other)], True)
        self.assert_all(UNMADE, [(row, end, other)], False)

    def test_parts_left_out_or_too_many(self):
        told = find_parting(ODD)
        self.assert_all(ODD, [(), told[:1], told[:2], told[1:], told + ((),), told + told, (told,), (told,) * 3], False)

    def test_lists_bools_and_odd_values_at_any_depth(self):
        for scheme in (ODD, SEVERAL, with_written(UNMADE, (0, 2))):
            told = find_parting(scheme)
            for change in (as_list, as_bool, as_odd):
                self.assert_all(scheme, replaced(told, change), False)

    def test_other_values(self):
        for scheme in (ODD, FULL, SWAP):
            self.assert_all(scheme, ODD_VALUES + [(), 0, 1, "abc", ("011", "2", "21"), [(0, 1, 1), (2,), (2, 1)],
                                                  {(0, 1, 1): ((2,), (2, 1))}, ((), (), ()), (0, 1, 1)], False)

    def test_the_value_stays_as_it_is(self):
        for value in ([[0, 1, 1], [2], [2, 1]], ((0, 1, 1), [2], {2: [1]}), {(0, 1, 1): [2]}):
            before = copy.deepcopy(value)
            self.assert_same([is_parting(ODD, value), are_joins(ODD, value)], [False, False])
            self.assert_same(value, before)


if __name__ == "__main__":
    unittest.main()
