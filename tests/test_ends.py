import copy
import itertools
import random
import unittest

from samples import (BAD, DOCUMENTED, DOUBLINGS, FULL, LOOSE, ODD_VALUES, OPEN, SWAP, TALLY, StrictCase, as_bool,
                     as_list, as_odd, random_schemes, replaced, with_rules, with_written)
from searches import own_rules
from stackedputs.ends import are_merges, ends_of, fewest_left, find_merges, merged, most_left, places

# All operands vanish in pairs of the same, the inner ones first.
PAIRS = (1, ((0, -1),) * 3, (0, 1, 2), ((0, 0, -1), (1, 1, -1), (2, 2, -1)))
# 0 and 1 vanish, 1 and 0 make 2, 2 takes 1 in: so rows have several ends, of several lengths.
SEVERAL = (1, ((0, 0),) * 3, (0, 1), ((0, 1, -1), (1, 0, 2), (1, 2, 1), (2, 1, 0)))
# Merging at 1 leads to (0,) in one step, merging at 0 in two.
SHORTCUT = (1, ((0, 0),) * 3, (0, 1, 2), ((0, 1, 0), (0, 2, 0), (1, 2, -1)))
# Operands 3 to 5 are not made; the rules speak of them all the same.
UNMADE = (1, ((0, 0),) * 6, (0,), ((0, 0, 1), (3, 4, 5), (4, 3, -1), (5, 5, 3)))
SCHEMES = DOCUMENTED + [DOUBLINGS, PAIRS, SEVERAL, SHORTCUT, UNMADE]


def own_next(scheme, row):
    """The rows to which one merging leads, by the p at which it is."""
    found = {}
    for p, pair in enumerate(zip(row, row[1:])):
        if pair in own_rules(scheme):
            middle = own_rules(scheme)[pair]
            found[p] = row[:p] + ((middle,) if middle >= 0 else ()) + row[p + 2:]
    return found


def own_led_to(scheme, row):
    """The dict from each row to which mergings lead to the least number of them."""
    found = {row: 0}
    for many in range(len(row)):
        for other in [other for other, number in found.items() if number == many]:
            for result in own_next(scheme, other).values():
                found.setdefault(result, many + 1)
    return found


def own_ends(scheme, row):
    return sorted(other for other in own_led_to(scheme, row) if not own_next(scheme, other))


def own_are_merges(scheme, row, end, value):
    for p in value:
        if type(p) is not int or p not in own_next(scheme, row):
            return False
        row = own_next(scheme, row)[p]
    return row == end


def rows_up_to(scheme, most):
    return [row for many in range(most + 1) for row in itertools.product(range(len(scheme[1])), repeat=many)]


def random_rows(seed, scheme, many):
    """Rows of up to seven operands, made or not."""
    rng = random.Random(seed)
    return [tuple(rng.choices(range(len(scheme[1])), k=rng.randint(0, 7))) for _ in range(many)]


def some_rows(seed):
    for scheme in SCHEMES:
        for row in rows_up_to(scheme, 3) + random_rows(seed, scheme, 25):
            yield scheme, row
    for scheme in random_schemes(seed, 150):
        for row in random_rows(seed, scheme, 6):
            yield scheme, row


class Examples(StrictCase):
    def test_places_merged_and_ends_of(self):
        self.assert_same(
            [places(TALLY, (1, 1, 2)), merged(TALLY, (1, 1, 2), 1), ends_of(TALLY, (1, 1, 2)),
             ends_of(TALLY, (0, 1, 1)), ends_of(TALLY, ())],
            [[1], (1, 2), [(2,)], [(0, 1, 1)], [()]])

    def test_rules_into_nothing(self):
        self.assert_same(
            [ends_of(LOOSE, (0, 1, 1)), fewest_left(LOOSE, (1, 1, 1, 0)), most_left(LOOSE, (1, 1, 1, 0)),
             merged(LOOSE, (0, 1, 1), 1), find_merges(LOOSE, (0, 1, 1), (0,))],
            [[(0,)], 2, 2, (0,), (1,)])

    def test_merges(self):
        self.assert_same(
            [find_merges(LOOSE, (0, 1), (1,)), are_merges(LOOSE, (0, 1, 1), (0,), (0, 0)),
             are_merges(LOOSE, (0, 1, 1), (0,), (0,)), are_merges(LOOSE, (2,), (2,), ())],
            [None, True, False, True])


class PlacesAndMerged(StrictCase):
    def test_against_the_tests_own(self):
        for scheme, row in some_rows(40):
            wanted = own_next(scheme, row)
            self.assert_same(places(scheme, row), sorted(wanted))
            for p in wanted:
                self.assert_same(merged(scheme, row, p), wanted[p])

    def test_told_one_by_one(self):
        self.assert_same([places(FULL, ()), places(FULL, (1,)), places(FULL, (0, 1, 2, 3, 0, 1, 2)),
                          places(OPEN, (2, 1, 2, 1)), places(PAIRS, (0, 0, 0, 1, 1, 0)), places(SWAP, (0, 0, 0))],
                         [[], [], [0, 1, 2, 3, 4, 5], [1], [0, 1, 3], []])
        self.assert_same([merged(FULL, (0, 1, 2), 0), merged(FULL, (0, 1, 2), 1), merged(FULL, (3, 1), 0),
                          merged(PAIRS, (0, 1, 1, 0), 1), merged(PAIRS, (1, 1), 0), merged(PAIRS, (0, 0, 1, 2), 0),
                          merged(PAIRS, (0, 1, 2, 2), 2)],
                         [(3, 2), (0, 2), (3,), (0, 0), (), (1, 2), (0, 1)])

    def test_operands_that_are_not_made(self):
        self.assert_same([places(UNMADE, (3, 4, 3)), merged(UNMADE, (3, 4, 3), 0), merged(UNMADE, (3, 4, 3), 1),
                          places(with_written(UNMADE, (5,)), (0, 0))], [[0, 1], (5, 3), (3,), [0]])

    def test_told_lists_belong_to_the_caller(self):
        for _ in range(2):
            told = places(FULL, (0, 0, 0))
            self.assert_same(told, [0, 1])
            told.clear()
            told = ends_of(SEVERAL, (0, 1, 0))
            self.assert_same(told, [(0,), (0, 2)])
            told.clear()


class EndsOf(StrictCase):
    def test_against_the_tests_own_search(self):
        several = 0
        for scheme, row in some_rows(41):
            wanted = own_ends(scheme, row)
            several += len(wanted) > 1
            self.assert_same(ends_of(scheme, row), wanted)
            self.assert_same([fewest_left(scheme, row), most_left(scheme, row)],
                             [min(map(len, wanted)), max(map(len, wanted))])
        self.assertGreater(several, 50)

    def test_rows_that_vanish(self):
        self.assert_same([ends_of(PAIRS, (0, 0)), ends_of(PAIRS, (0, 1, 2, 2, 1, 0)), ends_of(PAIRS, (0, 0, 0)),
                          ends_of(PAIRS, (0,) * 7), fewest_left(PAIRS, (0, 1, 1, 0)), most_left(PAIRS, (0, 1, 1, 0)),
                          ends_of(PAIRS, (0, 1, 0, 1))],
                         [[()], [()], [(0,)], [(0,)], 0, 0, [(0, 1, 0, 1)]])

    def test_rows_with_several_ends(self):
        self.assert_same([ends_of(SEVERAL, (0, 1, 0)), fewest_left(SEVERAL, (0, 1, 0)), most_left(SEVERAL, (0, 1, 0)),
                          ends_of(SHORTCUT, (0, 1, 2)), ends_of(SEVERAL, (1, 0, 1, 0))],
                         [[(0,), (0, 2)], 1, 2, [(0,)], own_ends(SEVERAL, (1, 0, 1, 0))])
        self.assertGreater(len(own_ends(SEVERAL, (1, 0, 1, 0, 1, 0, 1))), 2)

    def test_rows_that_may_not_be_merged(self):
        for scheme in SCHEMES:
            self.assert_same([ends_of(scheme, ()), fewest_left(scheme, ()), most_left(scheme, ())], [[()], 0, 0])
            for operand in range(len(scheme[1])):
                self.assert_same([ends_of(scheme, (operand,)), fewest_left(scheme, (operand,))], [[(operand,)], 1])
        self.assert_same([ends_of(TALLY, (0, 1, 1, 1, 1, 1, 1)), most_left(TALLY, (0, 1, 1, 1, 1, 1, 1))],
                         [[(0, 1, 1, 1, 1, 1, 1)], 7])

    def test_all_rows_of_seven_of_two_operands(self):
        scheme = (1, ((0, 0),) * 2, (0, 1), ((0, 0, 1), (0, 1, -1), (1, 0, 0)))
        for row in itertools.product((0, 1), repeat=7):
            self.assert_same(ends_of(scheme, row), own_ends(scheme, row))

    def test_somewhat_longer_rows(self):
        self.assert_same([ends_of(FULL, (1, 2, 1, 1, 1, 0, 1, 1, 2)), fewest_left(PAIRS, (0, 1, 2) * 3)], [[(2,)], 9])

    def test_the_same_rules_with_other_written_operands(self):
        for written in ((0,), (1, 2), (3,), (0, 1, 2, 3)):
            self.assert_same([ends_of(with_written(FULL, written), (3, 2, 1)), ends_of(OPEN, (3, 2, 1))],
                             [[(0,)], own_ends(OPEN, (3, 2, 1))])


class FindMerges(StrictCase):
    def test_to_each_row_on_the_way(self):
        for scheme, row in some_rows(42):
            for end, many in own_led_to(scheme, row).items():
                merges = find_merges(scheme, row, end)
                self.assertIs(type(merges), tuple)
                self.assertEqual(len(merges), many, (scheme, row, end))
                self.assertTrue(own_are_merges(scheme, row, end, merges), (scheme, row, end))
                self.assertIs(are_merges(scheme, row, end, merges), True)

    def test_to_other_rows(self):
        for scheme in (TALLY, LOOSE, PAIRS, SEVERAL, SHORTCUT, UNMADE):
            for row in rows_up_to(scheme, 2) + random_rows(43, scheme, 10):
                led_to = own_led_to(scheme, row)
                for end in rows_up_to(scheme, 2) + [row + (0,), row[1:]]:
                    if end not in led_to:
                        self.assertIsNone(find_merges(scheme, row, end))

    def test_the_row_itself(self):
        for scheme in SCHEMES:
            for row in random_rows(44, scheme, 5) + [()]:
                self.assert_same(find_merges(scheme, row, row), ())

    def test_as_few_as_can_be(self):
        self.assert_same([find_merges(SHORTCUT, (0, 1, 2), (0,)), find_merges(SHORTCUT, (0, 1, 2), (0, 2)),
                          find_merges(LOOSE, (0, 1, 1), (0,))], [(1,), (0,), (1,)])
        self.assertIn(find_merges(FULL, (1, 1, 1), (3,)), ((0, 0), (1, 0)))
        self.assertEqual(len(find_merges(LOOSE, (0, 1, 1, 1, 1), (0,))), 2)
        self.assertEqual(len(find_merges(LOOSE, (0, 1, 1, 1, 1), (0, 1))), 2)

    def test_equal_results_for_equal_arguments(self):
        for scheme, row in some_rows(45):
            for end in ends_of(scheme, row):
                self.assert_same(find_merges(scheme, row, end), find_merges(copy.deepcopy(scheme), row, end))


class AreMerges(StrictCase):
    def assert_all(self, scheme, row, end, values, wanted):
        for value in values:
            self.assertIs(are_merges(scheme, row, end, value), wanted, (row, end, repr(value)[:300]))

    def test_all_short_tuples(self):
        for scheme in (LOOSE, PAIRS, SEVERAL, SHORTCUT, BAD):
            for row in random_rows(46, scheme, 8) + [(), (0,), (0, 1, 1), (0, 1, 2)]:
                ends = list(own_led_to(scheme, row)) + [(0,), (1, 1), (9,)]
                for many in range(4):
                    for value in itertools.product(range(-2, len(row) + 1), repeat=many):
                        for end in ends[:3] + ends[-4:]:
                            self.assert_all(scheme, row, end, [value], own_are_merges(scheme, row, end, value))

    def test_told_ones_and_what_is_near_them(self):
        for scheme, row in some_rows(47):
            for end in ends_of(scheme, row):
                told = find_merges(scheme, row, end)
                for at in range(len(told) + 1):
                    for p in (-1, 0, 1, 2, 6):
                        for value in (told[:at] + (p,) + told[at:], told[:at] + (p,) + told[at + 1:], told[:at]):
                            self.assert_all(scheme, row, end, [value], own_are_merges(scheme, row, end, value))

    def test_for_another_end(self):
        self.assert_all(SEVERAL, (0, 1, 0), (0,), [(0,)], True)
        self.assert_all(SEVERAL, (0, 1, 0), (0, 2), [(1,)], True)
        self.assert_all(SEVERAL, (0, 1, 0), (0,), [(1,), (), (0, 0), (0, -1)], False)
        self.assert_all(SEVERAL, (0, 1, 0), (0, 2), [(0,), (), (2,)], False)
        self.assert_all(SEVERAL, (0, 1, 0), (0, 1, 0), [()], True)
        self.assert_all(SEVERAL, (0, 1, 0), (), [(), (0,), (1,)], False)

    def test_places_counted_from_the_end_are_none(self):
        self.assert_all(FULL, (0, 1), (3,), [(0,)], True)
        self.assert_all(FULL, (0, 1), (3,), [(-1,), (-2,), (1,), (2,), (10 ** 59,), (-(10 ** 59),)], False)

    def test_lists_bools_and_other_values(self):
        row, end = (0, 1, 1), (3,)
        for value in ((0, 0), (1, 0)):
            self.assert_all(FULL, row, end, [value], True)
            self.assert_all(FULL, row, end, replaced(value, as_list) + replaced(value, as_bool), False)
            self.assert_all(FULL, row, end, replaced(value, as_odd), False)
        for value in ODD_VALUES + [0, 1, "0", "00", [], [0, 0], {0: 0}, ((0, 0),), (0, (0,)), (0,) * 20000, ((),)]:
            self.assert_all(FULL, row, end, [value], False)
            self.assert_all(FULL, (2,), (2,), [value], False)
        self.assert_all(FULL, (2,), (2,), [()], True)

    def test_the_value_stays_as_it_is(self):
        for value in ([0, 0], (0, [0]), {0: [0]}):
            before = copy.deepcopy(value)
            are_merges(FULL, (0, 1, 1), (3,), value)
            self.assert_same(value, before)


class Arguments(StrictCase):
    def test_they_stay_as_they_are(self):
        scheme, row, end = copy.deepcopy(SEVERAL), (0, 1, 0, 1), (2,)
        ends_of(scheme, row), find_merges(scheme, row, end), most_left(scheme, row), fewest_left(scheme, row)
        self.assert_same([scheme, row, end], [SEVERAL, (0, 1, 0, 1), (2,)])

    def test_schemes_asked_by_turns(self):
        for _ in range(3):
            self.assert_same([ends_of(FULL, (2, 1)), ends_of(OPEN, (2, 1))], [[(0,)], [(2, 1)]])
            self.assert_same(ends_of(with_rules(FULL, [(2, 1, -1)]), (2, 1)), [()])


if __name__ == "__main__":
    unittest.main()
