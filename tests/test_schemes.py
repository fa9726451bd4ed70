import copy
import itertools
import unittest

from samples import (BAD, DOCUMENTED, FULL, LOOSE, ODD_VALUES, OPEN, SWAP, TALLY, StrictCase, as_bool, as_list, as_odd,
                     nested, replaced, with_part)
from stackedputs.schemes import effect, is_scheme, row_effect, rule_for

IDENTITY_OF_FOUR = (-1, 0, 1, 2, 3)
SIX = (4, tuple((k,) * 5 for k in (-1, 0, 1, 2, 3)) + (IDENTITY_OF_FOUR,), (0, 1, 2, 3, 4, 5),
       tuple((a, b, b if b < 5 else a) for a in range(6) for b in range(6)))


class Examples(StrictCase):
    def test_is_scheme(self):
        self.assert_same(
            [is_scheme(TALLY), is_scheme(TALLY[:3] + (((0, 0, 0), (0, 0, 1)),)), is_scheme(TALLY[:2] + ((), ())),
             is_scheme((0, ((-1,),), (0,), ()))],
            [True, False, False, False])

    def test_effects_and_rules(self):
        self.assert_same(
            [effect(TALLY, 1, -1), effect(TALLY, 1, 0), effect(TALLY, 2, 1), rule_for(TALLY, 1, 2),
             rule_for(TALLY, 1, 1), row_effect(TALLY, (1, 1)), row_effect(TALLY, ())],
            [0, 1, -1, 2, None, (1, 1, 1), (-1, 0, 1)])


class IsScheme(StrictCase):
    def assert_schemes(self, values):
        for value in values:
            self.assertIs(is_scheme(value), True, value)

    def assert_no_schemes(self, values):
        for value in values:
            self.assertIs(is_scheme(value), False, repr(value)[:300])

    def test_the_documents_schemes(self):
        self.assert_schemes(DOCUMENTED)

    def test_numbers_of_values(self):
        for v in range(1, 5):
            self.assert_schemes([(v, ((v - 1,) * (v + 1),), (0,), ()), (v, ((-1,) * (v + 1),), (0,), ())])
        self.assert_no_schemes([(0, ((-1,),), (0,), ()), (5, ((0,) * 6,), (0,), ()), (-1, ((),), (0,), ()),
                                (10 ** 59, ((0, 0),), (0,), ()), (-(10 ** 59), ((0, 0),), (0,), ())])

    def test_numbers_of_effects(self):
        for many in range(1, 7):
            self.assert_schemes([(1, ((0, -1),) * many, (0,), ())])
        for many in (0, 7, 8, 100):
            self.assert_no_schemes([(1, ((0, -1),) * many, (0,), ())])

    def test_states_of_an_effect(self):
        for v in range(1, 5):
            for at in range(v + 1):
                for state in (-1, 0, v - 1):
                    self.assert_schemes([(v, (with_part((0,) * (v + 1), at, state),), (0,), ())])
                for state in (-2, v, v + 1, -(10 ** 59), 10 ** 59):
                    self.assert_no_schemes([(v, (with_part((0,) * (v + 1), at, state),), (0,), ())])
            for many in (0, 1, v, v + 2, v + 3):
                if many != v + 1:
                    self.assert_no_schemes([(v, ((0,) * many,), (0,), ()),
                                            (v, ((0,) * (v + 1), (0,) * many), (0,), ())])

    def test_written_operands(self):
        effects = ((0, 0), (-1, -1), (0, -1))
        for many in range(4):
            for written in itertools.product(range(-2, 5), repeat=many):
                wanted = many > 0 and sorted(set(written)) == list(written) and set(written) <= {0, 1, 2}
                self.assertIs(is_scheme((1, effects, written, ())), wanted, written)
        self.assert_no_schemes([(1, effects, (0, 1, 2, 3), ()), (1, effects, (0, 0, 1, 2), ())])

    def test_pairs_of_rules(self):
        effects = ((0, 0), (-1, -1))
        candidates = list(itertools.product(range(-1, 3), range(-1, 3), range(-2, 3)))
        self.assert_schemes([(1, effects, (0,), ())])
        for rule in candidates:
            right = rule[0] in (0, 1) and rule[1] in (0, 1) and rule[2] in (-1, 0, 1)
            self.assertIs(is_scheme((1, effects, (0,), (rule,))), right, rule)
        for one, other in itertools.product(candidates, repeat=2):
            right = one[:2] < other[:2] and all(
                rule[0] in (0, 1) and rule[1] in (0, 1) and rule[2] in (-1, 0, 1) for rule in (one, other))
            self.assertIs(is_scheme((1, effects, (0,), (one, other))), right, (one, other))

    def test_all_operands_written_and_a_rule_for_each_pair(self):
        self.assert_schemes([SIX, with_part(SIX, 2, (5,)), with_part(SIX, 3, ()), with_part(SIX, 3, SIX[3][35:]),
                             with_part(SIX, 3, tuple((a, b, -1) for a, b, _ in SIX[3]))])
        rules = SIX[3]
        self.assert_no_schemes([
            with_part(SIX, 3, rules[:35] + (rules[35], rules[35])),
            with_part(SIX, 3, rules + ((6, 0, 0),)),
            with_part(SIX, 3, rules[:35] + ((5, 5, 6),)),
            with_part(SIX, 3, rules[:35] + ((5, 5, -2),)),
            with_part(SIX, 3, rules[:34] + (rules[35], rules[34])),
            with_part(SIX, 3, rules[:1] + ((0, 0, 1),) + rules[1:]),
            with_part(SIX, 3, rules[1:] + rules[:1]),
        ])

    def test_rules_not_ascending_far_apart(self):
        rules = TALLY[3]
        self.assert_no_schemes([with_part(TALLY, 3, rules[::-1]), with_part(TALLY, 3, rules[3:] + rules[:3]),
                                with_part(TALLY, 3, rules + rules[:1])])

    def test_a_rule_with_a_part_too_few_or_too_many(self):
        for rule in ((), (0,), (0, 0), (0, 0, 0, 0)):
            self.assert_no_schemes([with_part(SWAP, 3, (rule,)), with_part(FULL, 3, FULL[3][:-1] + (rule,))])

    def test_parts_left_out_or_too_many(self):
        for scheme in DOCUMENTED + [SIX]:
            for many in range(4):
                self.assert_no_schemes([scheme[:many], scheme[4 - many:]])
            self.assert_no_schemes([scheme + ((),), scheme + (0,), scheme + scheme, (scheme,), (scheme, scheme)])

    def test_lists_in_the_place_of_tuples(self):
        for scheme in DOCUMENTED + [SIX]:
            self.assert_no_schemes(replaced(scheme, as_list))

    def test_bools_in_the_place_of_integers(self):
        for scheme in (SWAP, TALLY, BAD, LOOSE, (1, ((0, 1),), (0,), ((0, 0, 0),)),
                       (1, ((0, 0), (0, 0)), (0, 1), ((0, 1, 1), (1, 0, 1), (1, 1, 0)))):
            self.assert_no_schemes(replaced(scheme, as_bool))

    def test_odd_values_in_each_place(self):
        for scheme in (SWAP, TALLY, LOOSE):
            self.assert_no_schemes(replaced(scheme, as_odd))

    def test_an_empty_tuple_in_each_place_but_that_of_the_rules(self):
        for scheme in (SWAP, TALLY, LOOSE):
            for value in replaced(scheme, lambda value: [()]):
                self.assertIs(is_scheme(value), value == scheme[:3] + ((),), value)

    def test_other_values(self):
        self.assert_no_schemes(ODD_VALUES)
        self.assert_no_schemes([(value,) * 4 for value in ODD_VALUES])
        self.assert_no_schemes([dict(enumerate(TALLY)), {TALLY: True}, "(1, ((0, -1),), (0,), ())", 4,
                                [TALLY], ("abcd", "ab", "ab", "ab"), ("1", "01", "0", ""), nested(19, list, [SWAP])])

    def test_many_items(self):
        many = tuple(range(20000))
        self.assert_no_schemes([many, with_part(SWAP, 1, ((0, 0),) * 6000), with_part(SWAP, 2, many),
                                with_part(SWAP, 1, (many,)), with_part(SWAP, 3, ((0, 0, 0),) * 4000),
                                with_part(SWAP, 3, (many,))])

    def test_the_value_stays_as_it_is(self):
        for value in ([list(part) if isinstance(part, tuple) else part for part in TALLY],
                      {"a": [TALLY, {1: [2]}]}, (1, [[0, 0]], [0], [])):
            before = copy.deepcopy(value)
            is_scheme(value)
            self.assert_same(value, before)

    def test_by_turns(self):
        for _ in range(3):
            self.assert_schemes([SWAP, (1, ((0, 1 - 1),), (0,), ())])
            self.assert_no_schemes([(True, ((0, -1),), (0,), ()), (1, ((0, -1),), (False,), ())])


class Effect(StrictCase):
    def test_each_state_of_each_operand(self):
        for scheme in DOCUMENTED + [SIX]:
            for operand, states in enumerate(scheme[1]):
                for state in range(-1, scheme[0]):
                    self.assert_same(effect(scheme, operand, state), list(states)[1:][state] if state >= 0
                                     else states[0])

    def test_states_told_one_by_one(self):
        scheme = (4, ((3, 2, 1, 0, -1), (1, -1, 0, 3, 2)), (1,), ())
        self.assert_same([effect(scheme, 0, state) for state in (-1, 0, 1, 2, 3)], [3, 2, 1, 0, -1])
        self.assert_same([effect(scheme, 1, state) for state in (-1, 0, 1, 2, 3)], [1, -1, 0, 3, 2])
        self.assert_same([effect(SWAP, 0, -1), effect(SWAP, 0, 0)], [0, -1])

    def test_an_operand_that_is_not_written(self):
        self.assert_same([effect(FULL, 3, state) for state in (-1, 0, 1)], [1, 1, 1])


class RuleFor(StrictCase):
    def test_every_pair(self):
        for scheme in DOCUMENTED + [SIX]:
            told = {rule[:2]: rule[2] for rule in scheme[3]}
            for pair in itertools.product(range(len(scheme[1])), repeat=2):
                self.assert_same(rule_for(scheme, *pair), told.get(pair))

    def test_rules_into_nothing_are_not_no_rule(self):
        self.assert_same([rule_for(LOOSE, 1, 1), rule_for(LOOSE, 0, 1), rule_for(LOOSE, 1, 0)], [-1, 0, None])

    def test_the_order_of_a_pair_counts(self):
        self.assert_same([rule_for(FULL, 2, 1), rule_for(FULL, 1, 2)], [0, 2])
        self.assert_same([rule_for(OPEN, 2, 1), rule_for(OPEN, 1, 2)], [None, 2])

    def test_no_rules_at_all(self):
        self.assert_same(rule_for(SWAP, 0, 0), None)


class RowEffect(StrictCase):
    def test_rows_of_none_and_one_operand(self):
        for scheme in DOCUMENTED + [SIX]:
            self.assert_same(row_effect(scheme, ()), tuple(range(-1, scheme[0])))
            for operand, states in enumerate(scheme[1]):
                self.assert_same(row_effect(scheme, (operand,)), states)

    def test_rows_of_several_operands(self):
        for scheme in (FULL, (3, ((1, 2, 0, -1), (0, 0, 2, 1), (-1, 1, 1, 2)), (0,), ())):
            for many in (2, 3, 4):
                for row in itertools.product(range(len(scheme[1])), repeat=many):
                    wanted = []
                    for state in range(-1, scheme[0]):
                        for operand in row:
                            state = scheme[1][operand][state + 1]
                        wanted.append(state)
                    self.assert_same(row_effect(scheme, row), tuple(wanted))

    def test_the_oldest_operand_comes_first(self):
        self.assert_same([row_effect(FULL, (0, 2)), row_effect(FULL, (2, 0)), row_effect(FULL, (2, 1)),
                          row_effect(FULL, (1, 3, 2))],
                         [(-1, -1, -1), (0, 0, 0), (0, 0, 0), (-1, -1, -1)])

    def test_a_long_row(self):
        self.assert_same([row_effect(SWAP, (0,) * 20000), row_effect(SWAP, (0,) * 19999)], [(-1, 0), (0, -1)])


if __name__ == "__main__":
    unittest.main()
