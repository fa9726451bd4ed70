import copy
import functools
import itertools
import random
import unittest

from samples import (DOCUMENTED, DOUBLINGS, FULL, LOOSE, ODD_VALUES, OPEN, SWAP, TALLY, StrictCase, all_written,
                     as_bool, as_list, as_neighbour, as_odd, random_schemes, replaced, with_rules, with_written)
from searches import own_ends, own_longest, own_made, own_reached, own_rules, walked
from stackedputs.alike import (alike_groups, end_of, find_parting_row, find_table, is_parting_row, is_table,
                               same_in_the_end, taken_down)
from stackedputs.schemes import is_scheme

# Operands 0 and 2 differ only at 1, which is not reached; 3 is not made, though it is like 1.
TWINS = (2, ((0, 0, 1), (-1, -1, 1), (0, 0, -1), (-1, -1, -1)), (0, 1, 2), ())
# Rows of these vanish but for one operand, or two that are unlike.
PAIRS = (1, ((0, -1),) * 2, (0, 1), ((0, 0, -1), (1, 1, -1)))
# Its rules make the written 0 and 2 and, of these, 4; they speak of 1, 3 and 5 too, which are not made.
GAPS = (1, ((0, 0), (0, -1), (-1, -1), (0, 0), (-1, 0), (0, 0)), (0, 2),
        ((0, 2, 4), (1, 0, 4), (1, 1, -1), (2, 0, -1), (2, 2, 2), (3, 4, 0), (4, 3, 5), (4, 4, 0), (5, 5, 1)))
# A rule for each pair: operand 2 is made of 0 and 1, and of nothing else is there any more.
MAKER = (1, ((0, 0),) * 3, (0, 1),
         ((0, 0, 0), (0, 1, 2), (0, 2, 2), (1, 0, 1), (1, 1, 1), (1, 2, 1), (2, 0, 2), (2, 1, 2), (2, 2, 2)))
LEFT = (1, ((0, 0),) * 3, (0, 1), tuple((a, b, a) for a in range(3) for b in range(3)))
RIGHT = LEFT[:3] + (tuple((a, b, b) for a in range(3) for b in range(3)),)


def counting(most, back):
    """A scheme in which operand k stands for k + 1 writes, and one more than the most writes for as many as back."""
    def result(many):
        while many > most:
            many -= most + 1 - back
        return many - 1
    rules = tuple((a, b, result(a + b + 2)) for a in range(most) for b in range(most))
    return (1, ((0, 0),) * 6, (0,), rules)


def own_alike_groups(scheme):
    groups = {}
    for operand in own_made(scheme):
        turn = tuple(walked(scheme, state, (operand,)) for state in own_reached(scheme))
        groups[turn] = groups.get(turn, []) + [operand]
    return sorted(groups.values())


def own_taken_down(scheme):
    names = {operand: number for number, operand in enumerate(own_made(scheme))}
    rules = tuple((names[a], names[b], -1 if c == -1 else names[c])
                  for a, b, c in scheme[3] if a in names and b in names)
    return (scheme[0], tuple(scheme[1][operand] for operand in names), tuple(names[a] for a in scheme[2]), rules)


def own_end(scheme, row):
    """An end of the row, always merged where it can be first."""
    for p in range(len(row) - 1):
        c = own_rules(scheme).get(row[p:p + 2])
        if c is not None:
            return own_end(scheme, row[:p] + ((c,) if c >= 0 else ()) + row[p + 2:])
    return row


def ends_alike(scheme):
    """Whether each row of three made operands has one end alone."""
    return all(len(own_ends(scheme, row)) == 1 for row in itertools.product(own_made(scheme), repeat=3))


def may_be_compared(scheme):
    longest = own_longest(scheme)
    return longest is not None and longest <= 2 and ends_alike(scheme)


@functools.lru_cache(maxsize=None)
def small_schemes(written):
    """All schemes of two operands with these written that may be compared."""
    pairs = list(itertools.product(range(2), repeat=2))
    found = []
    for results in itertools.product((None, -1, 0, 1), repeat=4):
        rules = tuple(pair + (c,) for pair, c in zip(pairs, results) if c is not None)
        scheme = (1, ((0, 0), (-1, 0)), written, rules)
        if may_be_compared(scheme):
            found.append(scheme)
    return found


@functools.lru_cache(maxsize=None)
def larger_schemes():
    """Groups of schemes of three and four operands of which each two may be compared."""
    rng = random.Random(100)
    groups = [[counting(most, back) for most in range(1, 7) for back in range(most + 1)]]
    for base in (FULL, MAKER, LEFT, RIGHT, with_written(FULL, (0, 2)), with_written(MAKER, (0, 1, 2))):
        group = [base]
        for _ in range(150):
            rules = dict(own_rules(base))
            for pair in rng.sample(sorted(rules), rng.randint(1, 2)):
                rules[pair] = rng.choice([None, None, -1, *range(len(base[1]))])
            other = with_rules(base, [pair + (c,) for pair, c in rules.items() if c is not None])
            if may_be_compared(other) and other not in group:
                group.append(other)
        groups.append(group)
    return groups


def comparable_pairs(seed):
    rng = random.Random(seed)
    pairs = []
    for written in ((0,), (1,), (0, 1)):
        schemes = small_schemes(written)
        pairs += [(scheme, scheme) for scheme in schemes]
        pairs += [tuple(rng.choices(schemes, k=2)) for _ in range(150)]
    for group in larger_schemes():
        pairs += [(scheme, scheme) for scheme in group]
        pairs += [tuple(rng.choices(group, k=2)) for _ in range(30)]
    return pairs


def own_parts(one, other, row):
    """Whether the row parts them."""
    unlike = [own_end(one, row[:many]) != own_end(other, row[:many]) for many in range(len(row) + 1)]
    return unlike[-1] and not any(unlike[:-1])


def own_search(one, other):
    """The least number of operands of a row that parts them, or None, and the ends that are alike on the way."""
    ends, newest = {()}, [()]
    for many in itertools.count(1):
        further = []
        for end in newest:
            for a in one[2]:
                first, second = own_end(one, end + (a,)), own_end(other, end + (a,))
                if first != second:
                    return many, ends
                if first not in ends:
                    ends.add(first)
                    further.append(first)
        if not further:
            return None, ends
        newest = further


def own_is_table(one, other, value):
    """What the document says of a table, for a tuple of pairs of rows of integers."""
    both = [operand for operand in own_made(one) if operand in own_made(other)]
    if list(value) != sorted(set(value)) or ((), ()) not in value:
        return False
    for row, same in value:
        if row != same or len(row) > 2 or not set(row) <= set(both):
            return False
        if any((own_end(one, row + (a,)), own_end(other, row + (a,))) not in value for a in one[2]):
            return False
    return True


class Examples(StrictCase):
    def test_alike_groups_and_taken_down(self):
        self.assert_same(
            [alike_groups(FULL), alike_groups((1, ((0, 0), (0, 0), (-1, -1)), (0, 1, 2), ())), taken_down(FULL) == FULL,
             taken_down((2, FULL[1], (1, 3), ((1, 1, 3), (2, 2, 2))))],
            [[[0], [1], [2], [3]], [[0, 1], [2]], True, (2, ((0, 1, 1), (1, 1, 1)), (0, 1), ((0, 0, 1),))])

    def test_ends_and_the_parting_row(self):
        self.assert_same(
            [end_of(FULL, (1, 2, 1, 1, 1)), end_of(OPEN, (1, 2, 1, 1, 1)), same_in_the_end(FULL, FULL),
             same_in_the_end(FULL, OPEN), find_parting_row(FULL, OPEN)],
            [(3,), (3,), True, False, (2, 1)])

    def test_tables(self):
        self.assert_same(
            [find_table(FULL, FULL), is_table(FULL, FULL, (((), ()),)), is_parting_row(FULL, OPEN, (2, 1, 1)),
             is_parting_row(FULL, OPEN, (0, 2, 1))],
            [(((), ()), ((0,), (0,)), ((1,), (1,)), ((2,), (2,)), ((3,), (3,))), False, False, True])


class AlikeGroups(StrictCase):
    def test_against_the_tests_own(self):
        found = []
        for scheme in DOCUMENTED + [TWINS, PAIRS, GAPS, DOUBLINGS] + random_schemes(101, 300):
            told = alike_groups(scheme)
            found.append(len(told))
            self.assert_same(told, own_alike_groups(scheme))
            self.assertEqual(len({id(group) for group in told}), len(told))
        self.assertTrue({1, 2, 3, 4} <= set(found))

    def test_told_one_by_one(self):
        self.assert_same([alike_groups(TWINS), alike_groups(with_written(TWINS, (0, 1, 2, 3))),
                          alike_groups(with_written(TWINS, (1, 3))), alike_groups(GAPS), alike_groups(DOUBLINGS)],
                         [[[0, 2], [1]], [[0, 2], [1, 3]], [[1, 3]], [[0], [2], [4]], [[0, 1, 2, 3, 4, 5]]])

    def test_groups_that_are_not_side_by_side(self):
        scheme = (1, ((0, 0), (-1, -1), (0, 0), (0, -1), (-1, -1), (0, 0)), (0, 1, 2, 3, 4, 5), ())
        self.assert_same(alike_groups(scheme), [[0, 2, 5], [1, 4], [3]])
        self.assert_same(alike_groups(with_written(scheme, (1, 2, 4, 5))), [[1, 4], [2, 5]])

    def test_told_lists_belong_to_the_caller(self):
        for _ in range(2):
            told = alike_groups(TWINS)
            self.assert_same(told, [[0, 2], [1]])
            told[0].append(7)
            told.clear()


class TakenDown(StrictCase):
    def test_against_the_tests_own(self):
        changed = 0
        for scheme in DOCUMENTED + [TWINS, PAIRS, GAPS, DOUBLINGS] + random_schemes(102, 300):
            told = taken_down(scheme)
            changed += told != scheme
            self.assert_same(told, own_taken_down(scheme))
            self.assertTrue(is_scheme(told))
            self.assert_same(taken_down(told), told)
        self.assertGreater(changed, 50)

    def test_rules_with_operands_that_are_not_made_and_into_nothing(self):
        self.assert_same(taken_down(GAPS), (1, ((0, 0), (-1, -1), (-1, 0)), (0, 1),
                                            ((0, 1, 2), (1, 0, -1), (1, 1, 1), (2, 2, 0))))
        self.assert_same(taken_down(with_written(GAPS, (1,))), (1, ((0, -1),), (0,), ((0, 0, -1),)))
        self.assert_same(taken_down(with_written(GAPS, (5,))),
                         (1, ((0, -1), (0, 0)), (1,), ((0, 0, -1), (1, 1, 0))))
        self.assert_same(taken_down(with_written(GAPS, (3,))), (1, ((0, 0),), (0,), ()))
        self.assert_same(taken_down(with_written(GAPS, (3, 4))),
                         (1, ((0, 0), (0, -1), (0, 0), (-1, 0), (0, 0)), (2, 3),
                          ((1, 0, 3), (1, 1, -1), (2, 3, 0), (3, 2, 4), (3, 3, 0), (4, 4, 1))))

    def test_the_same_rules_with_other_written_operands_by_turns(self):
        for _ in range(2):
            for scheme in (GAPS, FULL, TWINS):
                for written in all_written(scheme):
                    other = with_written(scheme, written)
                    self.assert_same([taken_down(other), alike_groups(other)],
                                     [own_taken_down(other), own_alike_groups(other)])

    def test_arguments_stay(self):
        for scheme in (GAPS, TWINS, FULL):
            before = copy.deepcopy(scheme)
            taken_down(scheme), alike_groups(scheme), find_table(FULL, FULL)
            self.assertEqual(scheme, before)


class EndOf(StrictCase):
    def schemes(self):
        schemes = [scheme for scheme in DOCUMENTED + random_schemes(103, 200) if ends_alike(scheme)]
        return schemes + [DOUBLINGS, MAKER, LEFT, RIGHT, PAIRS] + small_schemes((0, 1))

    def test_rows_of_none_to_seven_operands(self):
        rng = random.Random(104)
        for scheme in self.schemes():
            for many in range(8):
                row = tuple(rng.choices(own_made(scheme), k=many))
                self.assert_same(end_of(scheme, row), own_end(scheme, row))

    def test_all_short_rows_have_just_this_end(self):
        for scheme in self.schemes()[::4]:
            for many in range(4):
                for row in itertools.product(own_made(scheme), repeat=many):
                    self.assert_same({end_of(scheme, row)}, own_ends(scheme, row))

    def test_longer_rows(self):
        rng = random.Random(105)
        for scheme in self.schemes():
            for many in (8, 12, 30):
                row = tuple(rng.choices(own_made(scheme), k=many))
                self.assert_same(end_of(scheme, row), own_end(scheme, row))

    def test_long_rows_told_one_by_one(self):
        self.assert_same([end_of(SWAP, (0,) * 5000), end_of(PAIRS, (0, 1) * 2500), end_of(PAIRS, (0, 0) * 2500),
                          end_of(PAIRS, (0,) * 4999), end_of(LEFT, (2,) + (1, 0) * 3000), end_of(RIGHT, (0, 1) * 3000),
                          end_of(TALLY, (1,) * 3000 + (2,)), end_of(LOOSE, (2,) + (1,) * 3001),
                          end_of(PAIRS, tuple([0, 1] * 1000 + [1, 0] * 1000)), end_of(DOUBLINGS, (0,) * 32)],
                         [(0,) * 5000, (0, 1) * 2500, (), (0,), (2,), (1,), (2,), (2, 1), (), (5,)])

    def test_told_one_by_one(self):
        self.assert_same([end_of(FULL, ()), end_of(FULL, (3,)), end_of(FULL, (2, 1)), end_of(OPEN, (2, 1)),
                          end_of(OPEN, (0, 2, 1, 2, 1)), end_of(PAIRS, (0, 1, 1, 0)), end_of(PAIRS, (1, 0, 0)),
                          end_of(LOOSE, (0, 1, 1, 1, 0)), end_of(MAKER, (1, 0, 1)), end_of(MAKER, (0, 1, 0))],
                         [(), (3,), (0,), (2, 1), (2, 1), (), (1,), (0, 0), (1,), (2,)])


class TableOrParting(StrictCase):
    def assert_one(self, one, other):
        """Returns the number of operands of a row that parts them, or None."""
        many, ends = own_search(one, other)
        same, table, row = same_in_the_end(one, other), find_table(one, other), find_parting_row(one, other)
        self.assert_same(same, many is None)
        if many is None:
            self.assertIsNone(row)
            self.assert_same(table, tuple(sorted((end, end) for end in ends)))
            self.assertTrue(own_is_table(one, other, table))
            self.assertIs(is_table(one, other, table), True)
        else:
            self.assertIsNone(table)
            self.assertIs(type(row), tuple)
            self.assertTrue(all(type(a) is int and a in one[2] for a in row))
            self.assertEqual(len(row), many, (one, other, row))
            self.assertTrue(own_parts(one, other, row), (one, other, row))
            self.assertIs(is_parting_row(one, other, row), True)
        return many

    def test_many_pairs(self):
        found = [self.assert_one(*pair) for pair in comparable_pairs(106)]
        self.assertTrue({None, 2, 3, 4} <= set(found), set(found))
        self.assertGreater(len([many for many in found if many is None]), 100)

    def test_a_scheme_is_the_same_as_itself(self):
        for scheme in (FULL, OPEN, MAKER, LEFT, RIGHT):
            self.assertIsNone(self.assert_one(scheme, scheme))
            self.assertIsNone(self.assert_one(scheme, copy.deepcopy(scheme)))

    def test_rules_that_only_operands_that_are_not_made_have(self):
        # 2 and 3 are not made while only 0 is written: so what their rules say makes no difference.
        one = (1, ((0, 0),) * 4, (0,), ((0, 0, 0), (2, 2, 3), (3, 3, 3)))
        other = with_rules(one, [(0, 0, 0), (0, 2, 1), (2, 3, 3)])
        self.assertIsNone(self.assert_one(one, other))
        self.assert_same(find_table(one, other), (((), ()), ((0,), (0,))))

    def test_operands_that_are_made_in_one_alone(self):
        bare = (1, ((0, 0),) * 2, (0,), ((0, 0, 0),))
        second = with_rules(bare, [(0, 0, 1), (0, 1, 1), (1, 0, 1), (1, 1, 1)])
        third = with_rules(bare, [(0, 0, 1), (0, 1, 0), (1, 0, 0), (1, 1, 1)])
        unused = with_rules(bare, [(0, 0, 0), (0, 1, 0), (1, 0, 0), (1, 1, 1)])
        self.assert_same([self.assert_one(bare, second), self.assert_one(second, third), self.assert_one(bare, third),
                          self.assert_one(bare, unused), self.assert_one(unused, bare)], [2, 3, 2, None, None])
        self.assert_same([find_parting_row(bare, second), find_parting_row(second, third)], [(0, 0), (0, 0, 0)])

    def test_rules_for_one_pair_that_differ(self):
        for pair in own_rules(FULL):
            for c in (None, -1, 0, 1, 2, 3):
                rules = dict(own_rules(FULL))
                rules[pair] = c
                other = with_rules(FULL, [key + (result,) for key, result in rules.items() if result is not None])
                if may_be_compared(other):
                    self.assert_one(FULL, other)
                    self.assert_one(other, FULL)

    def test_the_first_operand_alone_or_the_last_one(self):
        self.assert_same([self.assert_one(LEFT, RIGHT), self.assert_one(MAKER, LEFT), self.assert_one(RIGHT, MAKER)],
                         [2, 2, 2])
        self.assert_same([find_parting_row(MAKER, LEFT), find_table(LEFT, RIGHT)], [(0, 1), None])

    def test_rows_of_up_to_seven_operands(self):
        for most, back in ((most, back) for most in range(1, 7) for back in range(most + 1)):
            one = counting(most, back)
            self.assertTrue(may_be_compared(one))
            for further in range(most, 7):
                for other in (counting(further, back) for back in range(further + 1)):
                    self.assertEqual(self.assert_one(one, other), None if one == other else most + 1)
                    self.assertEqual(self.assert_one(other, one), None if one == other else most + 1)

    def test_tables_with_rows_of_two_operands(self):
        self.assert_same(find_table(OPEN, OPEN), (((), ()), ((0,), (0,)), ((1,), (1,)), ((2,), (2,)), ((2, 1), (2, 1)),
                                                  ((3,), (3,))))

    def test_equal_results_for_equal_arguments(self):
        for one, other in comparable_pairs(107)[::5]:
            twins = copy.deepcopy([one, other])
            self.assert_same([find_table(*twins), find_parting_row(*twins)],
                             [find_table(one, other), find_parting_row(one, other)])
            self.assertEqual(twins, [one, other])


class IsTable(StrictCase):
    def assert_all(self, one, other, values, wanted):
        for value in values:
            self.assertIs(is_table(one, other, value), wanted, (one, other, repr(value)[:500]))

    def assert_as_own(self, one, other, values):
        found = [is_table(one, other, value) for value in values]
        for value, told in zip(values, found):
            self.assertIs(told, own_is_table(one, other, value), (one, other, repr(value)[:500]))
        return found

    def tables(self):
        """(one, other, table) for some of the pairs that are the same in the end."""
        found = [(one, other, find_table(one, other)) for one, other in comparable_pairs(108)]
        return [item for item in found if item[2] is not None]

    def test_larger_tables(self):
        larger = 0
        for one, other, table in self.tables():
            rows = [row for many in range(3) for row in itertools.product(range(len(one[1])), repeat=many)]
            everything = tuple(sorted((row, row) for row in rows))
            both = [operand for operand in own_made(one) if operand in own_made(other)]
            most = tuple((row, row) for row, _ in everything if set(row) <= set(both))
            found = self.assert_as_own(one, other, [everything, most])
            for row in rows:
                found += self.assert_as_own(one, other, [tuple(sorted({*table, (row, row)}))])
            larger += found.count(True)
        self.assertGreater(larger, 200)

    def test_a_pair_left_out_doubled_or_turned(self):
        for one, other, table in self.tables():
            self.assert_all(one, other, [table], True)
            for at, pair in enumerate(table):
                self.assert_all(one, other, [table[:at] + table[at + 1:], table[:at] + (pair,) + table[at:]], False)
            if len(table) > 1:
                self.assert_all(one, other, [table[::-1], table[1:] + table[:1], table * 2], False)
        self.assert_all(FULL, FULL, [()], False)

    def test_pairs_of_two_unlike_rows(self):
        for one, other, table in self.tables()[::6]:
            for (first, _), (second, _) in itertools.permutations(table, 2):
                self.assert_all(one, other, [tuple(sorted(table + ((first, second),))),
                                             tuple(sorted({*table, (first, second)} - {(first, first)}))], False)

    def test_operands_that_are_not_made_in_both(self):
        bare = (1, ((0, 0),) * 3, (0,), ((0, 0, 0), (1, 0, 0), (0, 1, 0), (1, 1, 0), (2, 2, 2)))
        maker = (1, ((0, 0),) * 3, (0, 1), bare[3])
        small = (((), ()), ((0,), (0,)))
        large = (((), ()), ((0,), (0,)), ((1,), (1,)))
        self.assert_all(bare, bare, [small], True)
        self.assert_all(bare, bare, [large, small + (((0, 1), (0, 1)),), small + (((2,), (2,)),)], False)
        self.assert_all(maker, maker, [large], True)
        self.assert_all(maker, maker, [small, large + (((2,), (2,)),)], False)

    def test_operands_that_are_made_in_one_alone(self):
        # With the rule (0, 1, 2) operand 2 is made; in RIGHT it is not.
        keep = with_rules(RIGHT, [(a, b, 2 if (a, b) == (0, 0) else b) for a in range(3) for b in range(3)])
        self.assert_same([own_made(RIGHT), own_made(keep)], [[0, 1], [0, 1, 2]])
        for one, other in ((RIGHT, keep), (keep, RIGHT), (keep, keep), (RIGHT, RIGHT)):
            table = (((), ()), ((0,), (0,)), ((1,), (1,)), ((2,), (2,)))
            self.assert_as_own(one, other, [table, table[:3]])

    def test_rows_of_three_operands(self):
        table = find_table(FULL, FULL)
        for row in ((0, 0, 0), (3, 1, 2), (0, 1, 2)):
            self.assert_all(FULL, FULL, [tuple(sorted(table + ((row, row),)))], False)
        for row in ((0, 0), (3, 1), (0, 1)):
            self.assert_all(FULL, FULL, [tuple(sorted(table + ((row, row),)))], True)

    def test_items_that_are_no_pairs(self):
        table = find_table(FULL, FULL)
        for row in ((0, 0), (3, 1)):
            for item in ((row,), (row, row, row), (row, row, ()), (row, row, None), row):
                self.assert_all(FULL, FULL, [table[:at] + (item,) + table[at:] for at in range(len(table) + 1)], False)

    def test_tables_of_other_schemes(self):
        tables = self.tables()[::9]
        for one, other, _ in tables:
            for _, _, table in tables:
                if table[-1][0] == () or max(max(row, default=0) for row, _ in table) < len(one[1]):
                    self.assert_as_own(one, other, [table])
        for one, other in comparable_pairs(109)[::3]:
            self.assert_as_own(one, other, [find_table(one, one), find_table(other, other)])

    def test_each_number_that_is_changed(self):
        for one, other, table in self.tables()[::8]:
            self.assert_as_own(one, other, replaced(table, as_neighbour))

    def test_lists_bools_and_other_values_in_each_place(self):
        for one, other, table in self.tables()[::40]:
            self.assert_all(one, other, replaced(table, as_list) + replaced(table, as_bool) + replaced(table, as_odd),
                            False)
        table = find_table(OPEN, OPEN)
        self.assert_all(OPEN, OPEN, replaced(table, as_list) + replaced(table, as_bool), False)

    def test_other_values(self):
        for value in ODD_VALUES + [(), 0, 1, ((),), (((),),), (((), (), ()),), ((), ()), [((), ())], {((), ()): True},
                                   (((), ()),) * 6000, ((), ((0,), (0,))), (("", ""),), (([], []),), ((0, 0),)]:
            self.assert_all(FULL, FULL, [value], False)

    def test_the_value_stays_as_it_is(self):
        for value in ([((), ())], (([], []),), {((), ()): [1]}):
            before = copy.deepcopy(value)
            self.assert_same([is_table(FULL, FULL, value), is_parting_row(FULL, OPEN, value)], [False, False])
            self.assert_same(value, before)


class IsPartingRow(StrictCase):
    def test_all_short_rows(self):
        found = []
        for one, other in comparable_pairs(110)[::3]:
            for many in range(5 if len(one[2]) < 3 else 4):
                for row in itertools.product(one[2], repeat=many):
                    found.append(is_parting_row(one, other, row))
                    self.assertIs(found[-1], own_parts(one, other, row), (one, other, row))
        self.assertGreater(found.count(True), 200)
        self.assertGreater(found.count(False), 200)

    def test_rows_cut_put_on_and_changed(self):
        rows = 0
        for one, other in comparable_pairs(111):
            row = find_parting_row(one, other)
            if row is None:
                continue
            rows += 1
            for at in range(len(row)):
                for operand in range(-2, len(one[1]) + 2):
                    value = row[:at] + (operand,) + row[at + 1:]
                    wanted = operand in one[2] and own_parts(one, other, value)
                    self.assertIs(is_parting_row(one, other, value), wanted, (one, other, value))
            values = [row[:-1], row[1:], row * 2] + [row + (operand,) for operand in range(-1, len(one[1]) + 1)]
            for value in values:
                wanted = set(value) <= set(one[2]) and own_parts(one, other, value)
                self.assertIs(is_parting_row(one, other, value), wanted, (one, other, value))
        self.assertGreater(rows, 100)

    def test_long_rows(self):
        self.assert_same([is_parting_row(FULL, OPEN, (1, 0) * 4000 + (2, 1)), is_parting_row(FULL, OPEN, (1, 0) * 4000),
                          is_parting_row(FULL, OPEN, (1, 0) * 4000 + (2, 1, 1)),
                          is_parting_row(FULL, FULL, (2, 1) * 4000), is_parting_row(FULL, OPEN, (2, 1) * 4000)],
                         [True, False, False, False, False])

    def test_operands_that_are_not_written(self):
        for row in ((3, 2, 1), (3, 1), (2, 1, 3), (4, 2, 1), (-1, 2, 1)):
            self.assertIs(is_parting_row(FULL, OPEN, row), False)

    def test_lists_bools_and_other_values(self):
        for one, other, row in ((FULL, OPEN, (2, 1)), (MAKER, LEFT, (0, 1)), (FULL, OPEN, (0, 1, 2, 1))):
            self.assertIs(is_parting_row(one, other, row), True)
            for value in replaced(row, as_list) + replaced(row, as_bool) + replaced(row, as_odd):
                self.assertIs(is_parting_row(one, other, value), False, repr(value)[:300])
            for value in ODD_VALUES + [(), 0, 21, "21", [2, 1], {2: 1}, ((2, 1),), (2, (1,))]:
                self.assertIs(is_parting_row(one, other, value), False, repr(value)[:300])


if __name__ == "__main__":
    unittest.main()
