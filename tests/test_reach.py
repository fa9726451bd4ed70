import copy
import itertools
import unittest

from samples import DOCUMENTED, FULL, LOOSE, ODD_VALUES, SWAP, TALLY, StrictCase, all_written, with_written
from searches import walked
from stackedputs.reach import is_way, reached, state_after, way_to, ways

# Each raise needs the one before: the way to the last value is as long as can be.
CHAIN = (4, ((0, 1, 2, 3, 3), (-1, -1, -1, -1, -1), (3, 3, 3, 3, 3)), (0, 1), ())
# Just one operand leads away from each state, so greedy or backward walks get lost.
STAIRS = (4, ((-1, 1, 1, 2, 3), (0, 0, 2, 2, 3), (-1, 0, 1, 3, 3)), (0, 1, 2), ())
STUCK = (3, ((-1, 0, 1, 2), (-1, 1, 2, 0)), (0, 1), ((0, 0, 0),))


def tried(scheme):
    """What ways tells, by trying all tuples of written operands, the shortest ones first."""
    found = {}
    for many in range(scheme[0] + 1):
        for row in itertools.product(scheme[2], repeat=many):
            found.setdefault(walked(scheme, -1, row), many)
    return found


def small_schemes():
    """All schemes with one or two values and two effects, with all choices of written operands."""
    for v in (1, 2):
        effects = list(itertools.product(range(-1, v), repeat=v + 1))
        for pair in itertools.product(effects, repeat=2):
            for written in ((0,), (1,), (0, 1)):
                yield (v, pair, written, ())


class Examples(StrictCase):
    def test_states_and_ways(self):
        self.assert_same(
            [state_after(TALLY, -1, (1, 1)), state_after(FULL, 1, (2, 3)), reached(TALLY), way_to(TALLY, -1),
             len(way_to(TALLY, 1)), ways(TALLY) == {-1: 0, 0: 1, 1: 2}],
            [1, 1, [-1, 0, 1], (), 2, True])

    def test_is_way(self):
        self.assert_same(
            [is_way(FULL, 1, (2, 0, 1)), is_way(FULL, 1, (3,)), is_way(FULL, 1, (1,)),
             reached(TALLY[:2] + ((0, 2), ())), way_to(TALLY[:2] + ((0, 2), ()), 1)],
            [True, False, False, [-1, 0], None])


class StateAfter(StrictCase):
    def test_every_state_and_short_row(self):
        for scheme in DOCUMENTED + [CHAIN, STAIRS]:
            for state in range(-1, scheme[0]):
                for many in range(4):
                    for row in itertools.product(range(len(scheme[1])), repeat=many):
                        self.assert_same(state_after(scheme, state, row), walked(scheme, state, row))

    def test_told_one_by_one(self):
        self.assert_same([state_after(TALLY, 1, ()), state_after(TALLY, -1, ()), state_after(TALLY, 1, (2, 1)),
                          state_after(TALLY, 1, (1, 2)), state_after(CHAIN, 0, (0, 0)), state_after(SWAP, 0, (0,))],
                         [1, -1, 0, -1, 2, -1])

    def test_operands_that_are_not_written(self):
        self.assert_same([state_after(FULL, -1, (3,)), state_after(CHAIN, -1, (2,))], [1, 3])

    def test_a_long_row(self):
        self.assert_same([state_after(SWAP, -1, (0,) * 20000), state_after(SWAP, -1, (0,) * 19999)], [-1, 0])


class Ways(StrictCase):
    def assert_ways(self, scheme):
        wanted = tried(scheme)
        self.assert_same(ways(scheme), wanted)
        self.assert_same(reached(scheme), sorted(wanted))
        for state in range(-1, scheme[0]):
            way = way_to(scheme, state)
            if state in wanted:
                self.assertIs(type(way), tuple)
                self.assertEqual(len(way), wanted[state], (scheme, state))
                self.assertTrue(all(type(operand) is int and operand in scheme[2] for operand in way), (scheme, way))
                self.assertEqual(walked(scheme, -1, way), state, (scheme, way))
                self.assertIs(is_way(scheme, state, way), True)
            else:
                self.assertIsNone(way)

    def test_small_schemes(self):
        for scheme in small_schemes():
            self.assert_ways(scheme)

    def test_larger_schemes(self):
        for scheme in DOCUMENTED + [CHAIN, STAIRS, STUCK]:
            for written in all_written(scheme):
                self.assert_ways(with_written(scheme, written))

    def test_all_states_are_reached(self):
        self.assert_same([reached(CHAIN), ways(CHAIN), way_to(CHAIN, 3)],
                         [[-1, 0, 1, 2, 3], {-1: 0, 0: 1, 1: 2, 2: 3, 3: 4}, (0, 0, 0, 0)])
        self.assert_same([reached(STAIRS), way_to(STAIRS, 3)], [[-1, 0, 1, 2, 3], (1, 0, 1, 2)])
        self.assert_same([reached(SWAP), ways(SWAP), way_to(SWAP, 0)], [[-1, 0], {-1: 0, 0: 1}, (0,)])

    def test_some_states_are_not_reached(self):
        self.assert_same([reached(STUCK), ways(STUCK), [way_to(STUCK, state) for state in range(-1, 3)]],
                         [[-1], {-1: 0}, [(), None, None, None]])
        skipping = (4, ((1, 0, 3, 0, -1),), (0,), ())
        self.assert_same([reached(skipping), ways(skipping), [way_to(skipping, state) for state in (0, 1, 2, 3)]],
                         [[-1, 1, 3], {-1: 0, 1: 1, 3: 2}, [None, (0,), None, (0, 0)]])

    def test_rules_and_operands_that_are_not_written_reach_nothing(self):
        made = (2, ((0, 0, 0), (1, 1, 1)), (0,), ((0, 0, 1),))
        self.assert_same([reached(made), ways(made), way_to(made, 1)], [[-1, 0], {-1: 0, 0: 1}, None])

    def test_the_number_is_the_least_one(self):
        both = with_written(CHAIN, (0, 1, 2))
        self.assert_same([ways(both), way_to(both, 3), len(way_to(both, 2))],
                         [{-1: 0, 0: 1, 1: 2, 2: 3, 3: 1}, (2,), 3])

    def test_other_written_operands_asked_by_turns(self):
        for _ in range(3):
            for written in all_written(CHAIN):
                self.assert_ways(with_written(CHAIN, written))
            self.assert_same([reached(with_written(CHAIN, (0,))), reached(with_written(CHAIN, (1,))),
                              reached(with_written(CHAIN, (2,)))],
                             [[-1, 0, 1, 2, 3], [-1], [-1, 3]])
            self.assert_same([way_to(with_written(CHAIN, (2,)), 3), way_to(with_written(CHAIN, (0,)), 3),
                              is_way(with_written(CHAIN, (2,)), 3, (2,)), is_way(with_written(CHAIN, (0,)), 3, (2,))],
                             [(2,), (0, 0, 0, 0), True, False])

    def test_told_lists_and_dicts_belong_to_the_caller(self):
        for scheme in (TALLY, FULL, LOOSE):
            told = reached(scheme)
            told.append(9)
            told.reverse()
            self.assert_same(reached(scheme), [-1, 0, 1])
            told = ways(scheme)
            told[1] = 0
            del told[-1]
            told[7] = 7
            self.assert_same(ways(scheme), {-1: 0, 0: 1, 1: 2})
            self.assert_same([way_to(scheme, 1), reached(scheme)], [way_to(scheme, 1), [-1, 0, 1]])

    def test_equal_results_for_equal_arguments(self):
        for scheme in (FULL, STAIRS, CHAIN):
            twin = copy.deepcopy(scheme)
            for state in range(-1, scheme[0]):
                self.assert_same(way_to(scheme, state), way_to(twin, state))


class IsWay(StrictCase):
    def test_all_short_tuples(self):
        for scheme in (FULL, SWAP, with_written(CHAIN, (0, 2)), STAIRS):
            items = range(-2, len(scheme[1]) + 2)
            for many in range(4):
                for row in itertools.product(items, repeat=many):
                    written = all(operand in scheme[2] for operand in row)
                    for state in range(-1, scheme[0]):
                        wanted = written and walked(scheme, -1, row) == state
                        self.assertIs(is_way(scheme, state, row), wanted, (scheme, state, row))

    def test_ways_that_are_not_the_shortest(self):
        self.assert_same([is_way(TALLY, -1, ()), is_way(TALLY, -1, (0, 2)), is_way(TALLY, 1, (0, 0, 2, 1, 1, 1)),
                          is_way(SWAP, -1, (0,) * 20000), is_way(SWAP, 0, (0,) * 20000)],
                         [True, True, True, True, False])

    def test_another_end(self):
        self.assert_same([is_way(TALLY, 0, ()), is_way(TALLY, 1, (1,)), is_way(TALLY, 0, (1, 1)),
                          is_way(TALLY, -1, (1, 1))], [False] * 4)

    def test_an_operand_that_is_not_written_or_not_there(self):
        self.assert_same([is_way(FULL, 1, (3,)), is_way(FULL, 0, (3, 0)), is_way(FULL, 0, (4, 0)),
                          is_way(FULL, -1, (-1, 2)), is_way(FULL, -1, (10 ** 59, 2)), is_way(FULL, 0, (2, 0, 3, 0))],
                         [False] * 6)

    def test_bools_are_no_operands(self):
        self.assert_same([is_way(TALLY, 0, (True,)), is_way(TALLY, 0, (False,)), is_way(TALLY, 1, (0, True)),
                          is_way(TALLY, 1, (True, 1))], [False] * 4)

    def test_lists_are_no_ways(self):
        self.assert_same([is_way(TALLY, -1, []), is_way(TALLY, 0, [1]), is_way(TALLY, 0, ([1],)),
                          is_way(TALLY, 0, ((1,),)), is_way(TALLY, 0, (1, []))], [False] * 5)

    def test_other_values(self):
        others = ODD_VALUES + [{0: 1}, "0", (0, "0"), (0, None), (0, {}), (0, (0,)), (0, {1: 0})]
        for scheme in (TALLY, FULL, SWAP):
            for state in range(-1, scheme[0]):
                for value in others + [0, 1, -1]:
                    self.assertIs(is_way(scheme, state, value), False, repr(value)[:300])
                for value in others:
                    self.assertIs(is_way(scheme, state, (0, value, 0)), False, repr(value)[:300])

    def test_the_value_stays_as_it_is(self):
        for value in ([0, 1], (0, [1, {2: [3]}]), {0: [1]}):
            before = copy.deepcopy(value)
            is_way(TALLY, 0, value)
            self.assert_same(value, before)


if __name__ == "__main__":
    unittest.main()
