import copy
import itertools
import unittest

from samples import (BAD, DOCUMENTED, DOUBLINGS, FULL, LOOSE, ODD_VALUES, ROUNDS, SWAP, TALLY, StrictCase, as_bool,
                     as_list, as_odd, random_schemes, replaced)
from searches import all_histories, own_after, own_reads, own_steps
from stackedputs.standings import after, beginning, is_standing, read_held, read_now, steps

# Each pair goes into nothing, and is right to: the operands swap two states.
VANISH = (1, ((0, -1), (0, -1)), (0, 1), ((0, 0, -1), (0, 1, -1), (1, 0, -1), (1, 1, -1)))
LONG = [
    (FULL, (("write", 1), ("hold",), ("write", 1), ("write", 2), ("hold",), ("write", 1), ("hold",), ("merge", 1),
            ("write", 0), ("let", 1), ("merge", 1), ("let", 0), ("merge", 0), ("settle",), ("let", 0), ("settle",))),
    (VANISH, (("write", 0), ("write", 1), ("hold",), ("write", 0), ("write", 1), ("write", 1), ("hold",), ("merge", 2),
              ("write", 0), ("write", 0), ("hold",), ("merge", 3), ("merge", 0), ("let", 1), ("let", 0),
              ("settle",))),
    (TALLY, (("hold",), ("write", 1), ("hold",), ("write", 1), ("write", 1), ("hold",), ("write", 2), ("let", 0),
             ("settle",), ("let", 0), ("settle",), ("let", 0), ("merge", 0), ("settle",))),
]


class Examples(StrictCase):
    def test_beginning_and_steps(self):
        self.assert_same(
            [beginning(TALLY), steps(TALLY, (-1, (1, 0), (1,)))],
            [(-1, (), ()), [('hold',), ('let', 0), ('settle',), ('write', 0), ('write', 1), ('write', 2)]])

    def test_after(self):
        self.assert_same(
            [after(TALLY, (-1, (1, 0), (0, 2)), ('merge', 0)), after(TALLY, (-1, (1, 0), (1,)), ('settle',)),
             after(FULL, (0, (1,), ()), ('hold',))],
            [(-1, (0,), (0, 1)), (0, (0,), (0,)), (0, (1,), (1,))])

    def test_reads(self):
        self.assert_same(
            [read_now(TALLY, (-1, (1, 1), (1,))), read_held(TALLY, (-1, (1, 1), (1,)), 0),
             is_standing(TALLY, (-1, (1, 1), (3,)))],
            [1, 0, False])


class Beginning(StrictCase):
    def test_it_is_the_same_for_all(self):
        for scheme in DOCUMENTED + [DOUBLINGS, ROUNDS]:
            self.assert_same(beginning(scheme), (-1, (), ()))
            self.assertIs(is_standing(scheme, beginning(scheme)), True)


class IsStanding(StrictCase):
    def assert_all(self, scheme, values, wanted):
        for value in values:
            self.assertIs(is_standing(scheme, value), wanted, repr(value)[:300])

    def test_bases(self):
        for scheme in DOCUMENTED + [ROUNDS]:
            self.assert_all(scheme, [(state, (), ()) for state in range(-1, scheme[0])], True)
            self.assert_all(scheme, [(state, (), ()) for state in (-3, -2, scheme[0], scheme[0] + 1, 10 ** 59)], False)

    def test_cells(self):
        for scheme in DOCUMENTED + [DOUBLINGS]:
            many = len(scheme[1])
            self.assert_all(scheme, [(-1, (), ()), (-1, tuple(range(many)), ()), (-1, (many - 1,), ()),
                                     (-1, (0,) * 19000, ()), (-1, (many - 1,) * 19000, (0, 19000))], True)
            for cell in (-2, -1, many, many + 1, 10 ** 59):
                self.assert_all(scheme, [(-1, (cell,), ()), (-1, (0, cell), ()), (-1, (cell, 0), ()),
                                         (-1, (0,) * 19000 + (cell,), ())], False)

    def test_cells_need_not_be_made_or_written(self):
        self.assert_all(FULL, [(0, (3, 3), ())], True)
        self.assert_all(FULL[:3] + ((),), [(0, (3, 3), ())], True)

    def test_all_short_holds(self):
        for cells in ((), (1,), (1, 0), (2, 2, 2)):
            for many in range(5):
                for holds in itertools.product(range(-1, len(cells) + 2), repeat=many):
                    wanted = many < 4 and sorted(holds) == list(holds) and set(holds) <= set(range(len(cells) + 1))
                    self.assertIs(is_standing(TALLY, (0, cells, holds)), wanted, (cells, holds))

    def test_holds_told_one_by_one(self):
        cells = (1, 0, 1)
        self.assert_all(TALLY, [(-1, cells, ()), (-1, cells, (0,)), (-1, cells, (3,)), (-1, cells, (0, 0, 0)),
                                (-1, cells, (3, 3, 3)), (-1, cells, (0, 1, 3)), (-1, (), (0, 0, 0))], True)
        self.assert_all(TALLY, [(-1, cells, (-1,)), (-1, cells, (4,)), (-1, cells, (1, 0)), (-1, cells, (2, 3, 1)),
                                (-1, cells, (0, 1, 2, 3)), (-1, cells, (0, 0, 0, 0)), (-1, (), (1,))], False)

    def test_parts_left_out_or_too_many(self):
        full = (0, (1, 2), (1,))
        self.assert_all(TALLY, [(), full[:1], full[:2], full[1:], full[2:], full + ((),), full + (0,), full + full,
                                (full,), (0, (1, 2), None), (0, (), (), ()), ((), (), ()), (0, 0, 0)], False)

    def test_lists_and_bools_at_any_depth(self):
        for standing in ((0, (1, 0), (0, 1)), (1, (1, 1), (1, 1, 1)), (-1, (), ()), (0, (0,), (1,))):
            self.assert_all(TALLY, [standing], True)
            self.assert_all(TALLY, replaced(standing, as_list), False)
            self.assert_all(TALLY, replaced(standing, as_bool), False)
        self.assert_all(TALLY, [[0, [1], [1]], (0, [1], [1])], False)

    def test_other_values(self):
        for scheme in (TALLY, SWAP, ROUNDS):
            self.assert_all(scheme, ODD_VALUES + [0, 1, -1, (), scheme], False)
            for standing in ((0, (0, 0), (0, 1)), (-1, (), ())):
                self.assert_all(scheme, replaced(standing, as_odd), False)
        self.assert_all(TALLY, [{0: 0, 1: (), 2: ()}, "0()", ("0", "", ""), (0, "", ""), (0, {}, {}), (0, {0: 0}, ()),
                                (0, (), {0: 0}), (0, "11", (1,)), (0, (1, 1), "1")], False)

    def test_the_value_stays_as_it_is(self):
        for value in ([0, [1], [1]], (0, [1, {2: [3]}], ()), {0: [(0, (), ())]}):
            before = copy.deepcopy(value)
            is_standing(TALLY, value)
            self.assert_same(value, before)


class Steps(StrictCase):
    def test_each_kind_alone(self):
        self.assert_same(steps(SWAP, (-1, (), ())), [("hold",), ("write", 0)])
        self.assert_same(steps(SWAP, (-1, (0,), ())), [("hold",), ("settle",), ("write", 0)])
        self.assert_same(steps(SWAP, (-1, (), (0,))), [("hold",), ("let", 0), ("write", 0)])
        self.assert_same(steps(LOOSE, (0, (1, 1), ())),
                         [("hold",), ("merge", 0), ("settle",), ("write", 0), ("write", 1), ("write", 2)])

    def test_only_written_operands_are_written(self):
        self.assert_same(steps(FULL, (-1, (), ())), [("hold",), ("write", 0), ("write", 1), ("write", 2)])
        self.assert_same(steps(ROUNDS, (-1, (), ())), [("hold",), ("write", 0)])

    def test_operands_that_are_not_written_are_merged(self):
        self.assert_same(steps(FULL, (-1, (3, 3), (0,))),
                         [("hold",), ("let", 0), ("merge", 0), ("write", 0), ("write", 1), ("write", 2)])

    def test_a_snapshot_bars_the_merge_at_its_position_alone(self):
        merges = {position: [step[1] for step in steps(FULL, (-1, (0, 1, 2, 3), (position,))) if step[0] == "merge"]
                  for position in range(5)}
        self.assertEqual(merges, {0: [0, 1, 2], 1: [1, 2], 2: [0, 2], 3: [0, 1], 4: [0, 1, 2]})
        self.assert_same([step for step in steps(FULL, (-1, (0, 1, 2, 3), (1, 2, 3))) if step[0] == "merge"], [])
        self.assert_same([step for step in steps(FULL, (-1, (0, 1, 2, 3), (0, 3, 4))) if step[0] == "merge"],
                         [("merge", 0), ("merge", 1)])

    def test_settling(self):
        for holds, wanted in (((), True), ((0,), False), ((1,), True), ((0, 1), False), ((1, 1, 2), True),
                              ((0, 0, 2), False), ((2,), True)):
            self.assertEqual(("settle",) in steps(TALLY, (-1, (0, 1), holds)), wanted, holds)
        self.assertNotIn(("settle",), steps(TALLY, (1, (), ())))

    def test_three_are_held_at_most(self):
        for many in range(4):
            found = steps(TALLY, (0, (1,), (1,) * many))
            self.assertEqual(("hold",) in found, many < 3)
            self.assertEqual([step for step in found if step[0] == "let"], [("let", i) for i in range(many)])

    def test_more_than_ten_merges_are_in_the_order_of_numbers(self):
        found = steps(FULL, (0, (0,) * 13, ()))
        self.assert_same(found, [("hold",)] + [("merge", k) for k in range(12)] + [("settle",)]
                         + [("write", k) for k in range(3)])

    def test_all_small_standings(self):
        for scheme in DOCUMENTED + [VANISH]:
            for many in range(4):
                for cells in itertools.product(range(len(scheme[1])), repeat=many):
                    for held in range(4):
                        for holds in itertools.combinations_with_replacement(range(many + 1), held):
                            standing = (0, cells, holds)
                            self.assert_same(steps(scheme, standing), own_steps(scheme, standing))

    def test_told_lists_belong_to_the_caller(self):
        told = steps(TALLY, (-1, (1, 0), (1,)))
        told.clear()
        self.assertEqual(len(steps(TALLY, (-1, (1, 0), (1,)))), 6)


class After(StrictCase):
    def test_writes(self):
        self.assert_same([after(FULL, (1, (), ()), ("write", 2)), after(FULL, (0, (3, 1), (0, 2)), ("write", 0))],
                         [(1, (2,), ()), (0, (3, 1, 0), (0, 2))])

    def test_merges(self):
        self.assert_same(
            [after(FULL, (-1, (0, 1, 2, 1), ()), ("merge", 0)), after(FULL, (-1, (0, 1, 2, 1), ()), ("merge", 1)),
             after(FULL, (-1, (0, 1, 2, 1), ()), ("merge", 2))],
            [(-1, (3, 2, 1), ()), (-1, (0, 2, 1), ()), (-1, (0, 1, 0), ())])

    def test_positions_behind_a_merge(self):
        for holds, wanted in (((0, 1, 3), (0, 1, 2)), ((3, 3, 4), (2, 2, 3)), ((1, 4, 4), (1, 3, 3)), ((0,), (0,)),
                              ((1,), (1,)), ((3,), (2,)), ((4,), (3,))):
            self.assert_same(after(FULL, (0, (0, 1, 2, 1), holds), ("merge", 1)), (0, (0, 2, 1), wanted))

    def test_positions_behind_a_merge_into_nothing(self):
        for holds, wanted in (((0, 1, 3), (0, 1, 1)), ((3, 3, 4), (1, 1, 2)), ((1, 4, 4), (1, 2, 2)), ((0,), (0,)),
                              ((1,), (1,)), ((3,), (1,)), ((4,), (2,))):
            self.assert_same(after(LOOSE, (0, (0, 1, 1, 2), holds), ("merge", 1)), (0, (0, 2), wanted))
        self.assert_same(after(VANISH, (0, (0, 1), (0, 2, 2)), ("merge", 0)), (0, (), (0, 0, 0)))

    def test_settling(self):
        self.assert_same([after(TALLY, (0, (1, 2), (1, 1, 2)), ("settle",)), after(TALLY, (0, (2,), (1,)), ("settle",)),
                          after(FULL, (-1, (3,), ()), ("settle",))],
                         [(1, (2,), (0, 0, 1)), (-1, (), (0,)), (1, (), ())])

    def test_holding_and_letting_go(self):
        self.assert_same([after(TALLY, (0, (), ()), ("hold",)), after(TALLY, (0, (1, 2), (0, 2)), ("hold",)),
                          after(TALLY, (0, (1, 2), (0, 1, 2)), ("let", 0)),
                          after(TALLY, (0, (1, 2), (0, 1, 2)), ("let", 1)),
                          after(TALLY, (0, (1, 2), (0, 1, 2)), ("let", 2)), after(TALLY, (0, (), (0,)), ("let", 0))],
                         [(0, (), (0,)), (0, (1, 2), (0, 2, 2)), (0, (1, 2), (1, 2)), (0, (1, 2), (0, 2)),
                          (0, (1, 2), (0, 1)), (0, (), ())])

    def test_all_short_histories(self):
        for scheme in (BAD, LOOSE, SWAP, VANISH, FULL):
            for many in range(4):
                for _, moment in all_histories(scheme, many):
                    self.assert_after(scheme, moment.standing)

    def assert_after(self, scheme, standing):
        self.assertIs(is_standing(scheme, standing), True)
        for step in steps(scheme, standing):
            before = copy.deepcopy((scheme, standing, step))
            result = after(scheme, standing, step)
            self.assert_same(result, own_after(scheme, standing, step))
            self.assertIs(is_standing(scheme, result), True)
            self.assert_same((scheme, standing, step), before)

    def test_long_histories(self):
        for scheme, history in LONG:
            standing = beginning(scheme)
            for step in history:
                self.assertIn(step, steps(scheme, standing))
                self.assert_after(scheme, standing)
                standing = after(scheme, standing, step)


class Reads(StrictCase):
    def test_at_each_standing_of_long_histories(self):
        for scheme, history in LONG:
            standing, plain, seen = beginning(scheme), -1, []
            for step in history:
                self.assertIn(step, steps(scheme, standing))
                standing = after(scheme, standing, step)
                if step[0] == "write":
                    plain = scheme[1][step[1]][plain + 1]
                elif step[0] == "hold":
                    seen.append(plain)
                elif step[0] == "let":
                    del seen[step[1]]
                self.assert_same(read_now(scheme, standing), plain)
                self.assert_same([read_held(scheme, standing, i) for i in range(len(standing[2]))], seen)

    def test_wrong_reads_are_told_as_they_are(self):
        self.assert_same([read_now(BAD, (-1, (1, 1), (2,))), read_held(BAD, (-1, (1, 1), (2,)), 0),
                          read_now(BAD, (-1, (1,), (1,))), read_held(BAD, (-1, (1,), (1,)), 0)], [1, 1, 0, 0])

    def test_positions_one_by_one(self):
        standing = (-1, (1, 1, 2, 0), (0, 1, 2))
        self.assert_same([read_held(TALLY, standing, i) for i in range(3)] + [read_now(TALLY, standing)], [-1, 0, 1, 0])
        standing = (1, (1, 1, 2, 0), (2, 3, 4))
        self.assert_same([read_held(TALLY, standing, i) for i in range(3)] + [read_now(TALLY, standing)], [1, -1, 0, 0])
        standing = (1, (), (0, 0, 0))
        self.assert_same([read_held(TALLY, standing, i) for i in range(3)] + [read_now(TALLY, standing)], [1, 1, 1, 1])

    def test_all_small_standings(self):
        for scheme in DOCUMENTED + random_schemes(6, 12):
            for cells in itertools.product(range(len(scheme[1])), repeat=3):
                for base in range(-1, scheme[0]):
                    standing = (base, cells, (0, 2, 3))
                    now, held = own_reads(scheme, standing)
                    self.assert_same(read_now(scheme, standing), now)
                    self.assert_same([read_held(scheme, standing, i) for i in range(3)], held)


if __name__ == "__main__":
    unittest.main()
