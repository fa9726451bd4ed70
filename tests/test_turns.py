import copy
import itertools
import random
import unittest

from samples import (BAD, DOCUMENTED, DOUBLINGS, FULL, LOOSE, ODD_VALUES, OPEN, ROUNDS, SWAP, TALLY, StrictCase,
                     all_written, as_bool, as_list, as_neighbour, as_odd, random_effects, random_schemes, replaced,
                     with_part, with_written)
from searches import own_has_book, own_made, own_reached, own_rules, walked
from stackedputs.schemes import is_scheme
from stackedputs.turns import is_least, least_count, least_scheme, row_for, turn_of, turns

FLIP = (2, ((0, 1, 0),), (0,), ())
# No writes lead to 1 and 2; the operands 0 and 3 differ only there, and 1 leaves both states that are reached.
FEW = (3, ((0, -1, 1, 2), (-1, 0, 2, 2), (0, 0, 0, 0), (0, -1, 2, 0)), (0, 1), ())
# Each state becomes the next one, and the last the first: five turns, the identity among them.
ROUND = (4, ((0, 1, 2, 3, -1),), (0,), ())
# All six operands are written; each puts a state, but the last one leaves all.
PUTS = (4, ((-1,) * 5, (0,) * 5, (1,) * 5, (2,) * 5, (3,) * 5, (-1, 0, 1, 2, 3)), (0, 1, 2, 3, 4, 5), ())
# Two operands that exchange two of three states: six turns, three of them neither written nor the identity.
SWAPPINGS = (2, ((0, -1, 1), (-1, 1, 0)), (0, 1), ())
# One climbs up three states, one deletes: so it needs four operands more.
CLIMB = (3, ((0, 1, 2, 2), (-1,) * 4), (0, 1), ())
# Operands 0 and 2 have one turn and unlike effects: 1 is not reached.
TWINS = (2, ((0, 0, 1), (-1, -1, 1), (0, 0, -1)), (0, 1, 2), ())
SCHEMES = DOCUMENTED + [DOUBLINGS, ROUNDS, FLIP, FEW, ROUND, PUTS, SWAPPINGS, CLIMB, TWINS]


def sparse_schemes(seed, many):
    """Schemes with few written operands, so that their turns are few and some states are not reached."""
    rng = random.Random(seed)
    found = []
    for _ in range(many):
        v = rng.randint(1, 4)
        effects = random_effects(rng, v, rng.randint(1, 4))
        written = tuple(sorted(rng.sample(range(len(effects)), rng.choice([1, 1, min(2, len(effects))]))))
        found.append((v, effects, written, ()))
    return found


def many_schemes(seed):
    return SCHEMES + random_schemes(seed, 120) + sparse_schemes(seed, 120)


def own_turn(scheme, row):
    return tuple(walked(scheme, state, row) for state in own_reached(scheme))


def own_turn_lengths(scheme):
    """The dict from each turn to the least number of written operands of a row with it, at least one."""
    lengths = {}
    newest = {tuple(own_reached(scheme))}
    for many in itertools.count(1):
        newest = {tuple(walked(scheme, state, (a,)) for state in turn) for turn in newest for a in scheme[2]}
        newest -= set(lengths)
        if not newest:
            return lengths
        lengths.update(dict.fromkeys(newest, many))


def own_further(scheme):
    written = [own_turn(scheme, (a,)) for a in scheme[2]]
    return [turn for turn in own_turn_lengths(scheme) if turn not in written and turn != own_turn(scheme, ())]


def own_least_count(scheme):
    return len(scheme[2]) + len(own_further(scheme))


def is_enough(scheme, value):
    """Whether a scheme is all that a least scheme must be, but for the number of its operands."""
    first = len(scheme[2])
    pairs = itertools.product(range(len(value[1])), repeat=2)
    return (value[0] == scheme[0] and value[2] == tuple(range(first))
            and value[1][:first] == tuple(scheme[1][a] for a in scheme[2])
            and own_made(value) == list(range(len(value[1]))) and all(pair in own_rules(value) for pair in pairs)
            and own_has_book(value))


def own_is_least(scheme, value):
    return is_scheme(value) and is_enough(scheme, value) and len(value[1]) == own_least_count(scheme)


def all_with_operands(scheme, many):
    """All schemes of this many operands that are enough, for few operands and values."""
    v, first = scheme[0], len(scheme[2])
    written = tuple(scheme[1][a] for a in scheme[2])
    effects = list(itertools.product(range(-1, v), repeat=v + 1))
    pairs = list(itertools.product(range(many), repeat=2))
    for further in itertools.product(effects, repeat=many - first):
        for results in itertools.product(range(-1, many), repeat=len(pairs)):
            rules = tuple((a, b, c) for (a, b), c in zip(pairs, results))
            value = (v, written + further, tuple(range(first)), rules)
            if is_enough(scheme, value):
                yield value


class Examples(StrictCase):
    def test_turn_of_turns_and_row_for(self):
        self.assert_same(
            [turn_of(TALLY, (1, 1)), turn_of(TALLY, ()), turns(TALLY), len(row_for(TALLY, (1, 1, 1))),
             row_for(TALLY, (1, 0, 0))],
            [(1, 1, 1), (-1, 0, 1), [(-1, -1, -1), (0, 0, 0), (0, 1, 1), (1, 1, 1)], 2, None])

    def test_least_count_and_is_least(self):
        self.assert_same([least_count(TALLY), is_least(TALLY, FULL), is_least(TALLY, TALLY),
                          is_least(TALLY, least_scheme(TALLY))], [4, True, False, True])

    def test_flip(self):
        self.assert_same([own_reached(FLIP), turns(FLIP), least_count(FLIP)], [[-1, 0, 1], [(0, 1, 0), (1, 0, 1)], 2])

    def test_swap(self):
        self.assert_same(
            [turns(SWAP), least_count(SWAP), least_scheme(SWAP),
             is_least(SWAP, (1, ((0, -1), (-1, 0)), (0,), ((0, 0, 1), (0, 1, 0), (1, 0, 0), (1, 1, 1))))],
            [[(-1, 0), (0, -1)], 1, (1, ((0, -1),), (0,), ((0, 0, -1),)), False])


class TurnOf(StrictCase):
    def test_rows_of_none_to_six_operands(self):
        rng = random.Random(80)
        for scheme in many_schemes(80):
            for many in range(7):
                row = tuple(rng.choices(range(len(scheme[1])), k=many))
                self.assert_same(turn_of(scheme, row), own_turn(scheme, row))

    def test_all_short_rows(self):
        for scheme in (FEW, TWINS, FULL, SWAPPINGS):
            for many in range(4):
                for row in itertools.product(range(len(scheme[1])), repeat=many):
                    self.assert_same(turn_of(scheme, row), own_turn(scheme, row))

    def test_told_one_by_one(self):
        self.assert_same([turn_of(FEW, (2,)), turn_of(FEW, (3, 0)), turn_of(FEW, (0,)), turn_of(FEW, (3,)),
                          turn_of(FULL, (3,)), turn_of(FULL, (3, 2)), turn_of(FULL, (2, 3)), turn_of(TWINS, ())],
                         [(0, 0), (-1, 0), (0, -1), (0, -1), (1, 1, 1), (-1, -1, -1), (1, 1, 1), (-1, 0)])

    def test_a_scheme_that_leaves_absent(self):
        still = (4, ((-1, 3, 2, 1, 0), (0, 0, 0, 0, 0)), (0,), ())
        self.assert_same([turn_of(still, ()), turn_of(still, (0, 0)), turn_of(still, (1,)), turns(still)],
                         [(-1,), (-1,), (0,), [(-1,)]])


class Turns(StrictCase):
    def test_each_once_and_in_ascending_order(self):
        for scheme in many_schemes(81):
            self.assert_same(turns(scheme), sorted(own_turn_lengths(scheme)))

    def test_the_identity_is_a_turn_of_writes_or_is_not(self):
        for scheme, wanted in ((TALLY, False), (FULL, False), (FLIP, False), (SWAP, True), (FEW, True), (ROUND, True),
                               (PUTS, True), (SWAPPINGS, True), (TWINS, False), (ROUNDS, True), (DOUBLINGS, False)):
            self.assert_same(turn_of(scheme, ()) in turns(scheme), wanted)

    def test_told_one_by_one(self):
        self.assert_same([turns(FEW), turns(TWINS), len(turns(ROUND)), turns(PUTS)[:2], len(turns(PUTS)),
                          len(turns(SWAPPINGS))],
                         [[(-1, 0), (0, -1)], [(-1, -1), (0, 0)], 5, [(-1,) * 5, (-1, 0, 1, 2, 3)], 6, 6])

    def test_as_many_turns_as_can_be(self):
        # A round, an exchange and two states put into one make all that can be made of five states.
        scheme = (4, ((0, 1, 2, 3, -1), (0, -1, 1, 2, 3), (0, 0, 1, 2, 3)), (0, 1, 2), ())
        self.assert_same(turns(scheme), sorted(itertools.product(range(-1, 4), repeat=5)))

    def test_told_lists_belong_to_the_caller(self):
        for _ in range(2):
            told = turns(SWAP)
            self.assert_same(told, [(-1, 0), (0, -1)])
            told.clear()


class RowFor(StrictCase):
    def test_as_few_operands_as_can_be_for_each_turn(self):
        for scheme in many_schemes(82):
            for turn, many in own_turn_lengths(scheme).items():
                row = row_for(scheme, turn)
                self.assertIs(type(row), tuple)
                self.assertTrue(all(type(a) is int and a in scheme[2] for a in row), (scheme, turn, row))
                self.assertEqual(len(row), many, (scheme, turn, row))
                self.assertEqual(own_turn(scheme, row), turn)

    def test_none_for_turns_that_no_row_has(self):
        for scheme in SCHEMES + sparse_schemes(83, 60):
            known = own_turn_lengths(scheme)
            for turn in itertools.product(range(-1, scheme[0]), repeat=len(own_reached(scheme))):
                self.assertEqual(row_for(scheme, turn) is None, turn not in known, (scheme, turn))

    def test_none_for_tuples_that_are_no_turn(self):
        for scheme in SCHEMES + sparse_schemes(84, 60):
            states = tuple(own_reached(scheme))
            others = [state for state in range(-1, scheme[0] + 2) if state not in states]
            values = [(), states + (-1,), states[1:], states * 2, (-2,) * len(states), (10 ** 59,) * len(states)]
            values += [(state,) * len(states) for state in others] + [states[1:] + (state,) for state in others]
            for value in values:
                if len(value) != len(states) or not set(value) <= set(states):
                    self.assertIsNone(row_for(scheme, value), (scheme, value))

    def test_told_one_by_one(self):
        self.assert_same([row_for(SWAP, (-1, 0)), row_for(ROUND, (-1, 0, 1, 2, 3)), row_for(PUTS, (-1, 0, 1, 2, 3)),
                          row_for(TALLY, (-1, 0, 1)), row_for(FEW, (-1, 0)), row_for(TALLY, (0, 0, 0)),
                          row_for(FULL, (1, 1, 1)) in [(0, 1), (1, 1)]],
                         [(0, 0), (0,) * 5, (5,), None, (1,), (0,), True])

    def test_equal_results_for_equal_arguments(self):
        for scheme in many_schemes(85):
            for turn in turns(scheme):
                self.assert_same(row_for(copy.deepcopy(scheme), copy.deepcopy(turn)), row_for(scheme, turn))


class LeastCount(StrictCase):
    def test_against_the_tests_own(self):
        for scheme in many_schemes(86):
            self.assert_same(least_count(scheme), own_least_count(scheme))

    def test_told_one_by_one(self):
        self.assert_same([least_count(scheme) for scheme in (FULL, SWAP, FEW, ROUND, PUTS, SWAPPINGS, CLIMB, TWINS,
                                                             DOUBLINGS, ROUNDS, with_written(FULL, (1,)), LOOSE)],
                         [4, 1, 2, 4, 6, 5, 6, 3, 1, 4, 2, 4])

    def test_the_same_scheme_with_other_written_operands_by_turns(self):
        for _ in range(2):
            for scheme in (FULL, TALLY, FEW, TWINS, OPEN, SWAPPINGS):
                for written in all_written(scheme):
                    other = with_written(scheme, written)
                    self.assert_same([least_count(other), turns(other), is_least(other, least_scheme(other))],
                                     [own_least_count(other), sorted(own_turn_lengths(other)), True])


class LeastScheme(StrictCase):
    def test_told_ones_are_least(self):
        counts = []
        for scheme in many_schemes(87):
            count, told = own_least_count(scheme), least_scheme(scheme)
            counts.append(count)
            self.assertEqual(told is None, count > 6, scheme)
            if told is not None:
                self.assertTrue(own_is_least(scheme, told), (scheme, told))
                self.assertIs(is_least(scheme, told), True)
        self.assertTrue({1, 2, 3, 4, 5, 6, 7} <= set(counts))

    def test_just_the_written_ones_more_six_and_more_than_six(self):
        self.assert_same([len(least_scheme(scheme)[1]) for scheme in (SWAP, FEW, PUTS, CLIMB, SWAPPINGS, TALLY)],
                         [1, 2, 6, 6, 5, 4])
        seven = (4, PUTS[1][:5] + ((0, 1, 2, 3, 3),), (0, 1, 2, 3, 4, 5), ())
        eight = (3, ((0, 1, 2, 2), (-1, -1, 0, 1)), (0, 1), ())
        for scheme in (seven, eight):
            self.assertGreater(own_least_count(scheme), 6)
            self.assertIsNone(least_scheme(scheme))

    def test_written_operands_with_one_turn_and_unlike_effects_both_stay(self):
        told = least_scheme(TWINS)
        self.assert_same(told[:3], (2, ((0, 0, 1), (-1, -1, 1), (0, 0, -1)), (0, 1, 2)))
        self.assertTrue(own_is_least(TWINS, told))

    def test_no_scheme_that_is_enough_has_fewer_operands(self):
        two = itertools.product(itertools.product((-1, 0), repeat=2), repeat=2)
        schemes = [(1, effects, written, ()) for effects in two for written in ((0,), (0, 1))]
        schemes += [(2, (effect,), (0,), ()) for effect in itertools.product(range(-1, 2), repeat=3)][::4]
        for scheme in schemes:
            for many in range(len(scheme[2]), 3):
                enough = list(all_with_operands(scheme, many))
                self.assertEqual(bool(enough), many >= own_least_count(scheme), (scheme, many))
                for value in enough:
                    self.assertIs(is_least(scheme, value), many == own_least_count(scheme), (scheme, value))

    def test_arguments_stay_and_results_are_equal(self):
        for scheme in many_schemes(88):
            twin = copy.deepcopy(scheme)
            self.assert_same([least_scheme(scheme), least_count(scheme)], [least_scheme(twin), least_count(twin)])
            self.assertEqual(scheme, twin)


class IsLeast(StrictCase):
    def assert_all(self, scheme, values, wanted):
        for value in values:
            self.assertIs(is_least(scheme, value), wanted, (scheme, repr(value)[:500]))

    def assert_as_own(self, scheme, values):
        found = [is_least(scheme, value) for value in values]
        for value, told in zip(values, found):
            self.assertIs(told, own_is_least(scheme, value), (scheme, repr(value)[:500]))
        return found

    def test_each_number_that_is_changed(self):
        found = []
        for scheme in (TALLY, SWAP, FEW, FLIP, TWINS, ROUND, SWAPPINGS, *sparse_schemes(89, 25)):
            told = least_scheme(scheme)
            if told is not None:
                found += self.assert_as_own(scheme, replaced(told, as_neighbour))
        self.assertIn(True, found)

    def test_effects_of_states_that_are_not_reached(self):
        # The state 2 is not reached: there the further operand may do what it likes, the written one may not.
        move = (3, ((0, 1, 1, 2),), (0,), ())
        told = least_scheme(move)
        self.assert_same(len(told[1]), 2)
        for last in range(-1, 3):
            effects = (told[1][0], told[1][1][:3] + (last,))
            self.assert_all(move, [with_part(told, 1, effects)], True)
            effects = (told[1][0][:3] + (last,), told[1][1])
            self.assert_all(move, [with_part(told, 1, effects)], last == 2)

    def test_further_operands_exchanged(self):
        for scheme in (SWAPPINGS, ROUND):
            told = least_scheme(scheme)
            first, many = len(scheme[2]), len(told[1])
            for order in itertools.permutations(range(first, many)):
                names = {old: new for new, old in enumerate(tuple(range(first)) + order)}
                names[-1] = -1
                effects = tuple(told[1][old] for old in tuple(range(first)) + order)
                rules = tuple(sorted((names[a], names[b], names[c]) for a, b, c in told[3]))
                self.assert_all(scheme, [(told[0], effects, told[2], rules)], True)
                self.assert_all(scheme, [with_part(told, 1, effects)], effects == told[1])

    def test_a_rule_left_out_changed_or_put_in(self):
        for scheme in (TALLY, SWAP, ROUND, TWINS, PUTS):
            told = least_scheme(scheme)
            rules = told[3]
            for at in range(len(rules)):
                self.assert_all(scheme, [with_part(told, 3, rules[:at] + rules[at + 1:])], False)
            self.assert_all(scheme, [with_part(told, 3, ()), with_part(told, 3, rules + ((len(told[1]), 0, 0),)),
                                     with_part(told, 3, rules + rules[-1:]), with_part(told, 3, rules[::-1] + (0,))],
                            False)
            for at, (a, b, c) in enumerate(rules):
                self.assert_as_own(scheme, [with_part(told, 3, with_part(rules, at, (a, b, other)))
                                            for other in range(-1, len(told[1]) + 1)])

    def test_the_identity_may_be_nothing_or_an_operand_that_is_written(self):
        told = least_scheme(PUTS)
        at = told[3].index([rule for rule in told[3] if rule[:2] == (5, 5)][0])
        for c in range(-1, 6):
            self.assert_all(PUTS, [with_part(told, 3, with_part(told[3], at, (5, 5, c)))], c in (-1, 5))
        # For TWINS a rule may lead to either of the two operands with one turn.
        told = least_scheme(TWINS)
        at = [rule[:2] for rule in told[3]].index((1, 0))
        for c in range(-1, 3):
            self.assert_all(TWINS, [with_part(told, 3, with_part(told[3], at, (1, 0, c)))], c in (0, 2))

    def test_an_operand_more_or_one_that_is_not_made(self):
        for scheme in (TALLY, SWAP, FEW, FLIP, TWINS):
            told = least_scheme(scheme)
            many = len(told[1])
            for effect in (told[1][0], told[1][-1], tuple(range(-1, scheme[0]))):
                effects = told[1] + (effect,)
                rules = tuple(sorted(told[3] + tuple((many, a, a) for a in range(many))
                                     + tuple((a, many, a) for a in range(many)) + ((many, many, many),)))
                for c in range(-1, many + 1):
                    changed = tuple((a, b, c) if (a, b) == (0, 0) else (a, b, d) for a, b, d in rules)
                    self.assert_all(scheme, [(told[0], effects, told[2], rules), (told[0], effects, told[2], changed),
                                             with_part(told, 1, effects)], False)

    def test_an_operand_that_nothing_makes(self):
        # Two turns of FLIP: the second has its operand 1, but here (0, 0) leads nowhere near it.
        told = least_scheme(FLIP)
        self.assert_same(told[1], ((0, 1, 0), (1, 0, 1)))
        for c in range(-1, 2):
            self.assert_all(FLIP, [with_part(told, 3, ((0, 0, c),) + told[3][1:])], c == 1)

    def test_schemes_with_other_written_operands_or_other_values(self):
        for scheme in (TALLY, FEW, SWAPPINGS):
            told = least_scheme(scheme)
            for written in all_written(told):
                self.assert_all(scheme, [with_written(told, written)], written == told[2])
        self.assert_all((1, ((0, 0),), (0,), ()), [(2, ((0, 0, 0),), (0,), ((0, 0, 0),))], False)
        self.assert_all((2, ((0, 0, 0),), (0,), ()), [(1, ((0, 0),), (0,), ((0, 0, 0),))], False)
        self.assert_all((2, ((0, 0, 0),), (0,), ()), [(2, ((0, 0, 0),), (0,), ((0, 0, 0),))], True)

    def test_the_operands_that_are_written_stand_first_and_in_their_order(self):
        scheme = with_written(FULL, (0, 2))
        small = (2, ((0, 0, 0), (-1, -1, -1)), (0, 1), ((0, 0, 0), (0, 1, 1), (1, 0, 0), (1, 1, 1)))
        turned = (2, ((-1, -1, -1), (0, 0, 0)), (0, 1), ((0, 0, 0), (0, 1, 1), (1, 0, 0), (1, 1, 1)))
        self.assert_same([is_least(scheme, small), is_least(scheme, turned)], [True, False])
        self.assert_same(least_scheme(scheme), small)

    def test_where_more_than_six_are_needed_nothing_is_least(self):
        scheme = (4, PUTS[1][:5] + ((0, 1, 2, 3, 3),), (0, 1, 2, 3, 4, 5), ())
        right = least_scheme(PUTS)
        self.assert_all(scheme, [right, scheme, PUTS, with_part(right, 1, scheme[1]), None], False)

    def test_least_schemes_of_others(self):
        schemes = SCHEMES + sparse_schemes(90, 60)
        told = [least_scheme(scheme) for scheme in schemes]
        for scheme in schemes:
            self.assert_as_own(scheme, [value for value in told if value is not None])
            self.assert_as_own(scheme, schemes[:12])

    def test_lists_bools_and_other_values_in_each_place(self):
        for scheme in (SWAP, TWINS, (1, ((0, 0), (-1, 0)), (0, 1), ())):
            told = least_scheme(scheme)
            self.assert_all(scheme, replaced(told, as_list) + replaced(told, as_bool) + replaced(told, as_odd), False)

    def test_other_values(self):
        for scheme in (TALLY, SWAP, BAD):
            self.assert_all(scheme, ODD_VALUES + [(), 0, 1, "TALLY", [least_scheme(scheme)], (least_scheme(scheme),),
                                                  list(least_scheme(scheme)), least_scheme(scheme) + ((),)], False)

    def test_the_value_stays_as_it_is(self):
        for value in ([2, [0], {1: [2]}], (2, [[0, 0, 0]], (0,), ()), {"a": [TALLY]}):
            before = copy.deepcopy(value)
            is_least(TALLY, value)
            self.assert_same(value, before)


if __name__ == "__main__":
    unittest.main()
