import copy
import itertools
import random
import unittest

from samples import (BAD, DOCUMENTED, DOUBLINGS, FULL, LOOSE, OPEN, SWAP, TALLY, StrictCase, all_written,
                     random_schemes, with_rules, with_written)
from searches import own_after, own_longest, own_rules, own_steps
from stackedputs.snapshots import barred, fewest_cells, fewest_lets, most_cells, stretches

PAIRS = (1, ((0, -1),) * 3, (0, 1, 2), ((0, 0, -1), (1, 1, -1), (2, 2, -1)))
# 0 and 1 vanish, 1 and 0 make 2, 2 takes 1 in: so the order of merging counts.
SEVERAL = (1, ((0, 0),) * 3, (0, 1), ((0, 1, -1), (1, 0, 2), (1, 2, 1), (2, 1, 0)))
# Everything can be put into one, and two of 5 into nothing.
SIX = (1, ((0, 0),) * 6, (0, 1, 2, 3, 4, 5), tuple((a, b, -1 if a == b == 5 else min(a, b))
                                                   for a in range(6) for b in range(6)))
# The longest rows without a rule have just this many operands.
LONGEST = [(SIX, 1), (OPEN, 2), (with_rules(SIX, [rule for rule in SIX[3] if rule[:2] not in ((0, 1), (1, 2))]), 3),
           (with_rules(SIX, [rule for rule in SIX[3] if rule[1] != rule[0] + 1]), 6), (TALLY, None), (SWAP, None)]
SCHEMES = DOCUMENTED + [PAIRS, SEVERAL, SIX, DOUBLINGS]


def random_standing(rng, scheme, most=7):
    many = rng.randint(0, most)
    holds = sorted(rng.choices(range(many + 1), k=rng.randint(0, 3)))
    return (rng.randrange(-1, scheme[0]), tuple(rng.choices(range(len(scheme[1])), k=many)), tuple(holds))


def some_standings(seed, many=6):
    rng = random.Random(seed)
    for scheme in SCHEMES + random_schemes(seed, 120):
        for _ in range(many):
            yield scheme, random_standing(rng, scheme)


def all_holds(many):
    positions = range(many + 1)
    return [holds for held in range(4) for holds in itertools.combinations_with_replacement(positions, held)]


def own_fewest_cells(scheme, standing):
    """The least number of cells, by all merges in every order."""
    found, newest = {standing}, [standing]
    while newest:
        further = set()
        for other in newest:
            further |= {own_after(scheme, other, step) for step in own_steps(scheme, other) if step[0] == "merge"}
        newest = sorted(further - found)
        found |= further
    return min(len(cells) for _, cells, _ in found)


def own_fewest_lets(scheme, standing, n):
    """The least number of snapshots to let go, each choice tried by steps of letting go, or None."""
    many = len(standing[2])
    for count in range(many + 1):
        for lets in itertools.combinations(range(many), count):
            if own_fewest_cells(scheme, let_go(scheme, standing, lets)) <= n:
                return count
    return None


def let_go(scheme, standing, lets):
    for i in sorted(lets, reverse=True):
        standing = own_after(scheme, standing, ("let", i))
    return standing


class Examples(StrictCase):
    def test_stretches_barred_and_fewest_cells(self):
        self.assert_same(
            [stretches((-1, (1, 0, 1), (1, 3))), barred(TALLY, (-1, (1, 0, 1), (1, 3))),
             fewest_cells(TALLY, (-1, (1, 0, 1), (1, 3))), fewest_cells(TALLY, (-1, (1, 0, 1), ()))],
            [((1,), (0, 1), ()), [0], 3, 2])

    def test_most_cells_and_fewest_lets(self):
        self.assert_same(
            [most_cells(FULL, 0), most_cells(FULL, 2), most_cells(TALLY, 0),
             fewest_lets(TALLY, (-1, (1, 0, 1), (1, 3)), 2), fewest_lets(TALLY, (-1, (1, 0, 1), (1, 3)), 1)],
            [1, 3, None, (0,), None])


class Stretches(StrictCase):
    def test_all_held_positions(self):
        for many in range(8):
            cells = tuple(range(many))
            for holds in all_holds(many):
                told = stretches((-1, cells, holds))
                self.assertIs(type(told), tuple)
                self.assertEqual(len(told), len(holds) + 1)
                self.assertTrue(all(type(row) is tuple for row in told))
                # The cells stand in them in their order, and each position is the number of cells before it.
                self.assertEqual(sum(told, ()), cells)
                self.assertEqual([sum(map(len, told[:at + 1])) for at in range(len(holds))], list(holds))

    def test_told_one_by_one(self):
        self.assert_same([stretches((0, (), ())), stretches((0, (), (0, 0, 0))), stretches((0, (5, 4), (0,)))],
                         [((),), ((), (), (), ()), ((), (5, 4))])
        self.assert_same([stretches((0, (5, 4), (2,))), stretches((0, (5, 4), (1, 1))),
                          stretches((1, (5, 4, 3), (0, 2, 3)))],
                         [((5, 4), ()), ((5,), (), (4,)), ((), (5, 4), (3,), ())])


class Barred(StrictCase):
    def test_against_the_rules_and_the_steps(self):
        found = []
        for scheme, standing in some_standings(120):
            _, cells, holds = standing
            wanted = [k for k in range(len(cells) - 1) if cells[k:k + 2] in own_rules(scheme) and k + 1 in holds]
            self.assert_same(barred(scheme, standing), wanted)
            free = own_steps(scheme, (standing[0], cells, ()))
            merges = {step for step in free if step[0] == "merge"} - set(own_steps(scheme, standing))
            self.assertEqual(merges, {("merge", k) for k in wanted})
            found.append(len(wanted))
        self.assertTrue({0, 1, 2, 3} <= set(found))

    def test_told_one_by_one(self):
        cells = (0, 1, 2, 0, 1, 2, 0)
        self.assert_same([barred(FULL, (0, cells, holds)) for holds in ((), (0,), (7,), (1,), (6,), (2, 2), (1, 3, 6))],
                         [[], [], [], [0], [5], [1], [0, 2, 5]])
        self.assert_same([barred(TALLY, (0, (1, 1, 2), (1, 2))), barred(LOOSE, (0, (1, 1, 1), (1, 1, 2))),
                          barred(SWAP, (0, (0, 0), (1,))), barred(FULL, (-1, (), (0, 0)))], [[1], [0, 1], [], []])

    def test_told_lists_belong_to_the_caller(self):
        for _ in range(2):
            told = barred(TALLY, (-1, (1, 0, 1), (1, 3)))
            self.assert_same(told, [0])
            told.clear()


class FewestCells(StrictCase):
    def test_against_all_merges_in_every_order(self):
        for scheme, standing in some_standings(121):
            self.assert_same(fewest_cells(scheme, standing), own_fewest_cells(scheme, standing))

    def test_all_held_positions_of_one_row(self):
        for scheme, cells in ((SEVERAL, (0, 1, 1, 0, 1, 0, 1)), (PAIRS, (0, 1, 1, 0, 2, 2, 0)),
                              (SIX, (5, 5, 1, 5, 5, 3, 5))):
            for holds in all_holds(7)[::3]:
                standing = (0, cells, holds)
                self.assert_same(fewest_cells(scheme, standing), own_fewest_cells(scheme, standing))

    def test_told_one_by_one(self):
        self.assert_same([fewest_cells(FULL, (0, (0, 1, 2, 0, 1, 2, 0), holds))
                          for holds in ((), (0,), (7,), (0, 7), (3,), (3, 3), (1, 3, 6))], [1, 1, 1, 1, 2, 2, 4])
        self.assert_same([fewest_cells(PAIRS, (0, (0, 0, 1, 1), holds))
                          for holds in ((), (2,), (1,), (1, 3), (1, 2, 3))], [0, 0, 2, 4, 4])
        self.assert_same([fewest_cells(PAIRS, (0, (0, 1, 1, 0), holds)) for holds in ((), (1, 3), (2,), (0, 4, 4))],
                         [0, 2, 4, 0])
        self.assert_same([fewest_cells(SWAP, (-1, (0,) * many, ())) for many in range(8)], list(range(8)))
        self.assert_same([fewest_cells(FULL, (-1, (), (0, 0, 0))), fewest_cells(SEVERAL, (-1, (1, 0, 1), ()))], [0, 1])

    def test_somewhat_more_cells(self):
        self.assert_same([fewest_cells(FULL, (0, (1,) * 9, ())), fewest_cells(FULL, (0, (1,) * 9, (4, 8)))], [1, 3])


class MostCells(StrictCase):
    def test_so_many_times_the_longest_row_or_none(self):
        found = []
        for scheme in SCHEMES + random_schemes(122, 300) + [scheme for scheme, _ in LONGEST]:
            longest = own_longest(scheme)
            for h in range(4):
                wanted = None if longest is None else longest * (h + 1)
                self.assert_same(most_cells(scheme, h), wanted)
                found.append(wanted)
        self.assertTrue({None, 1, 2, 3, 4, 6, 8, 12, 24} <= set(found))

    def test_told_one_by_one(self):
        for scheme, longest in LONGEST:
            self.assert_same([most_cells(scheme, h) for h in range(4)],
                             [None if longest is None else longest * times for times in (1, 2, 3, 4)])

    def test_against_all_histories_that_never_have_more_than_a_few_cells(self):
        few = [(FULL, 4, 2), (OPEN, 4, 1), (with_written(FULL, (0, 2)), 4, 2), (with_rules(SWAP, [(0, 0, -1)]), 4, 3)]
        for scheme, most, held in few:
            found, newest = {(-1, (), ())}, [(-1, (), ())]
            while newest:
                further = {own_after(scheme, standing, step)
                           for standing in newest for step in own_steps(scheme, standing)
                           if (step[0] != "write" or len(standing[1]) < most) and step[0] != "settle"}
                newest = sorted(further - found)
                found |= further
            ended = [standing for standing in found
                     if not [step for step in own_steps(scheme, standing) if step[0] == "merge"]]
            for h in range(held + 1):
                self.assertEqual(max(len(cells) for _, cells, holds in ended if len(holds) == h), most_cells(scheme, h))

    def test_the_same_rules_with_other_written_operands_by_turns(self):
        for _ in range(2):
            for scheme in (FULL, OPEN, TALLY, BAD):
                for written in all_written(scheme):
                    other = with_written(scheme, written)
                    longest = own_longest(other)
                    self.assert_same(most_cells(other, 3), None if longest is None else 4 * longest)


class FewestLets(StrictCase):
    def assert_one(self, scheme, standing, n):
        wanted, told = own_fewest_lets(scheme, standing, n), fewest_lets(scheme, standing, n)
        if wanted is None:
            self.assertIsNone(told, (scheme, standing, n))
            return None
        self.assertIs(type(told), tuple)
        self.assertTrue(all(type(i) is int and 0 <= i < len(standing[2]) for i in told))
        self.assertEqual(list(told), sorted(set(told)))
        self.assertEqual(len(told), wanted, (scheme, standing, n, told))
        self.assertLessEqual(own_fewest_cells(scheme, let_go(scheme, standing, told)), n)
        return len(told)

    def test_against_each_choice(self):
        found = []
        for scheme, standing in some_standings(123, 3):
            for n in range(len(standing[1]) + 2):
                found.append(self.assert_one(scheme, standing, n))
        self.assertTrue({None, 0, 1, 2, 3} <= set(found))

    def test_schemes_that_merge_all(self):
        rng = random.Random(124)
        for scheme in (FULL, SIX, PAIRS, SEVERAL, OPEN):
            for _ in range(25):
                many = rng.randint(4, 7)
                holds = tuple(sorted(rng.choices(range(many + 1), k=3)))
                standing = (0, tuple(rng.choices(range(len(scheme[1])), k=many)), holds)
                for n in range(many + 1):
                    self.assert_one(scheme, standing, n)

    def test_none_and_more_cells_than_there_are(self):
        standing = (0, (0, 1, 2, 0, 1, 2, 0), (1, 3, 6))
        self.assert_same([fewest_lets(FULL, standing, n) for n in (0, 4, 5, 7, 8, 100, 10 ** 59)], [None] + [()] * 6)
        self.assert_same([fewest_lets(FULL, (0, (), holds), 0) for holds in ((), (0,), (0, 0, 0))], [()] * 3)
        self.assert_same([fewest_lets(PAIRS, (0, (0, 0, 1, 1), holds), 0)
                          for holds in ((), (2,), (1,), (1, 2, 3), (1, 1))], [(), (), (0,), (0, 2), (0, 1)])

    def test_all_of_several_held_at_one_position(self):
        standing = (0, (0, 1, 2, 0), (2, 2, 2))
        self.assert_same([fewest_lets(FULL, standing, n) for n in (1, 2)], [(0, 1, 2), ()])
        self.assert_same(fewest_lets(FULL, (0, (0, 1, 2, 0), (0, 2, 4)), 1), (1,))
        self.assert_same(fewest_lets(FULL, (0, (0, 1, 2, 0), (0, 1, 1)), 1), (1, 2))

    def test_equal_results_for_equal_arguments_which_stay(self):
        for scheme, standing in some_standings(125, 2):
            twins = copy.deepcopy([scheme, standing])
            for n in range(4):
                self.assert_same(fewest_lets(*twins, n), fewest_lets(scheme, standing, n))
            barred(*twins), fewest_cells(*twins), most_cells(twins[0], 3), stretches(twins[1])
            self.assert_same(twins, [scheme, standing])


if __name__ == "__main__":
    unittest.main()
