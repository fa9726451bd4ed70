import copy
import itertools
import unittest

from samples import (BAD, DOCUMENTED, DOUBLINGS, FULL, LOOSE, ODD_VALUES, OPEN, ROUNDS, SWAP, TALLY, StrictCase,
                     all_written, as_bool, as_list, as_neighbour, as_odd, random_schemes, replaced, with_part,
                     with_rules, with_written)
from searches import (all_histories, is_right_at, own_fewest_steps, own_is_wrong, own_made, own_reached,
                      own_steps, walked)
from stackedputs.books import find_book, find_wrong, is_book, is_wrong
from stackedputs.prices import fewest_steps, find_prices, is_price
from stackedputs.standings import after, beginning

WRITE, MERGE = "write", "merge"
HOLD, SETTLE = ("hold",), ("settle",)
# Operand 0 counts up to 3 and stays there; 1 counts by two, but makes 1 of 3; 2 is never made.
COUNT = (4, ((0, 1, 2, 3, 3), (1, 2, 3, 3, 1), (0, 0, 0, 0, 0)), (0,), ((0, 0, 1), (2, 2, 0)))
# Two raises vanish: wrong at each state. A put in front of them does not show it.
GONE = TALLY[:3] + (((0, 0, 0), (1, 1, -1), (1, 2, 2)),)
# The rule is wrong at the value 1 alone, to which no writes lead.
HIDDEN = (2, ((0, 0, -1), (0, -1, 1)), (0, 1), ((0, 0, 0),))
# Only the last doubling of each is wrong.
LONG_NOTHING = with_rules(DOUBLINGS, DOUBLINGS[3] + ((5, 5, -1),))
LONG_ROUND = with_rules(ROUNDS, ROUNDS[3] + ((5, 5, 0),))
LONG_EFFECT = with_part(DOUBLINGS, 1, ((0, 0),) * 5 + ((0, -1),))
# A longer making of operand 2 comes first, and the one with fewer steps uses 1, which is written.
LONGER_FIRST = (1, ((0, 0),) * 4, (0, 1), ((0, 0, 3), (0, 3, 2), (1, 1, 2), (2, 2, -1)))
WRONG_ONES = [BAD, GONE, COUNT, LONG_NOTHING, LONG_ROUND, LONG_EFFECT, LONGER_FIRST]
RIGHT_ONES = [TALLY, FULL, OPEN, SWAP, DOUBLINGS, ROUNDS, HIDDEN, (1, ((0, -1),), (0,), ((0, 0, -1),))]
# A wrong rule whose operands are not made, or that no state shows.
BESIDE = [(2, ((0, 0, 0), (1, 1, 1), (0, -1, 1)), (0,), ((0, 0, 0), (0, 1, 0), (1, 0, 1), (1, 1, -1), (2, 2, 1)))]


def own_is_book(scheme, states, operands):
    rules = [rule for rule in scheme[3] if rule[0] in operands and rule[1] in operands]
    return (-1 in states and all(walked(scheme, state, (a,)) in states for state in states for a in scheme[2])
            and set(scheme[2]) <= set(operands) and all(c in operands for _, _, c in rules if c >= 0)
            and all(is_right_at(scheme, rule, state) for rule in rules for state in states))


def subsets(items):
    return [part for many in range(len(items) + 1) for part in itertools.combinations(items, many)]


def changed_histories(scheme, history, pool):
    """The history with a step left out, put in, exchanged or turned about with its neighbour."""
    found = []
    for at in range(len(history) + 1):
        found += [history[:at] + (step,) + history[at:] for step in pool]
        found += [history[:at] + history[at + 1:], history[:at]]
        found += [history[:at] + (step,) + history[at + 1:] for step in pool]
        found.append(history[:at] + history[at:at + 2][::-1] + history[at + 2:])
    return found


def steps_of_all_kinds(scheme):
    return ([(WRITE, operand) for operand in range(-1, len(scheme[1]) + 1)] + [(MERGE, k) for k in range(-1, 5)]
            + [("let", i) for i in range(-1, 4)] + [HOLD, SETTLE])


class Examples(StrictCase):
    def test_find_book_and_find_wrong(self):
        self.assert_same(
            [find_book(TALLY), find_book(FULL), find_book(BAD), find_wrong(FULL), find_wrong(BAD)],
            [((-1, 0, 1), (0, 1, 2)), ((-1, 0, 1), (0, 1, 2, 3)), None, None,
             (('write', 1), ('write', 1), ('merge', 0))])

    def test_is_book_and_is_wrong(self):
        self.assert_same(
            [is_book(TALLY, ((-1, 0, 1), (0, 1, 2))), is_book(TALLY, ((-1, 0), (0, 1, 2))),
             is_wrong(BAD, (('write', 1), ('write', 1), ('merge', 0), ('hold',)))],
            [True, False, False])


class ExactlyOne(StrictCase):
    def assert_one(self, scheme):
        """Returns the number of steps of the told history, or None if a book is told."""
        book, history = find_book(scheme), find_wrong(scheme)
        self.assertIs(book is None, history is not None, scheme)
        if history is None:
            self.assert_same(book, (tuple(own_reached(scheme)), tuple(own_made(scheme))))
            self.assertTrue(own_is_book(scheme, *book), scheme)
            self.assertIs(is_book(scheme, book), True)
            return None
        self.assertIs(type(history), tuple)
        self.assertTrue(own_is_wrong(scheme, history), (scheme, history))
        self.assertIs(is_wrong(scheme, history), True)
        self.assertFalse(own_is_book(scheme, own_reached(scheme), own_made(scheme)), scheme)
        self.assert_same(fewest_steps(scheme), len(history))
        return len(history)

    def test_right_schemes(self):
        for scheme in RIGHT_ONES:
            self.assertIsNone(self.assert_one(scheme))

    def test_wrong_schemes(self):
        self.assertEqual([self.assert_one(scheme) for scheme in WRONG_ONES], [3, 3, 7, 127, 127, 64, 7])

    def test_random_schemes(self):
        found = [self.assert_one(scheme) for scheme in random_schemes(8, 600)]
        self.assertGreater(found.count(None), 100)
        self.assertGreater(len(found) - found.count(None), 100)

    def test_schemes_of_one_value_and_one_operand(self):
        for effect in itertools.product((-1, 0), repeat=2):
            for rules in ((), ((0, 0, 0),), ((0, 0, -1),)):
                scheme = (1, (effect,), (0,), rules)
                self.assertEqual(self.assert_one(scheme), own_fewest_steps(scheme, 6), scheme)

    def test_the_history_is_a_shortest_one_against_a_search_of_all(self):
        for scheme in random_schemes(9, 150):
            many = self.assert_one(scheme)
            self.assertEqual(many if many is not None and many < 5 else None, own_fewest_steps(scheme, 4), scheme)

    def test_longer_shortest_histories_against_a_search_of_all(self):
        tried = [scheme for scheme in random_schemes(10, 3000)
                 if len(scheme[2]) < 3 and fewest_steps(scheme) in (5, 6)][:12]
        self.assertEqual({fewest_steps(scheme) for scheme in tried}, {5, 6})
        for scheme in tried:
            self.assertEqual(self.assert_one(scheme), own_fewest_steps(scheme, 6), scheme)

    def test_a_rule_that_only_the_last_state_shows(self):
        self.assertEqual([self.assert_one(COUNT), own_fewest_steps(COUNT, 7)], [7, 7])
        self.assert_same(find_wrong(COUNT), ((WRITE, 0),) * 6 + ((MERGE, 4),))

    def test_the_told_history_has_as_few_steps_as_prices_show(self):
        for scheme in WRONG_ONES + [scheme for scheme in random_schemes(11, 200) if find_wrong(scheme)]:
            many = len(find_wrong(scheme))
            self.assertIs(is_price(scheme, many, find_prices(scheme)), True)

    def test_chains_of_doublings_with_a_wrong_rule_at_the_end(self):
        for at in range(1, 6):
            for last in ((at, at, -1), (0, at, -1), (at, 0, -1)):
                scheme = with_rules(DOUBLINGS, DOUBLINGS[3][:at] + (last,))
                lengths = [2 ** (k + 1) - 1 for k in range(6)]
                self.assertEqual(self.assert_one(scheme), lengths[last[0]] + lengths[last[1]] + 1)

    def test_the_shorter_making_is_taken(self):
        self.assertEqual(len(find_wrong(LONGER_FIRST)), 7)
        self.assertEqual(sorted(find_wrong(LONGER_FIRST)),
                         sorted(((WRITE, 1),) * 4 + ((MERGE, 0), (MERGE, 1), (MERGE, 0))))

    def test_wrong_rules_that_no_history_reaches(self):
        for scheme in [HIDDEN, *BESIDE]:
            self.assertTrue(any(not is_right_at(scheme, rule, state) for rule in scheme[3]
                                for state in range(-1, scheme[0])))
            self.assertIsNone(self.assert_one(scheme))
        self.assert_same([find_book(HIDDEN), find_book(BESIDE[0])], [((-1, 0), (0, 1)), ((-1, 0), (0,))])

    def test_the_same_rules_with_other_written_operands_by_turns(self):
        for _ in range(2):
            for scheme in (HIDDEN, BESIDE[0], COUNT, GONE, FULL, BAD):
                for written in all_written(scheme):
                    self.assert_one(with_written(scheme, written))
        self.assert_same([find_wrong(with_written(BAD, (1,))), find_wrong(with_written(BAD, (0, 2))),
                          find_book(with_written(BAD, (0, 2))), find_book(with_written(BAD, (2,)))],
                         [((WRITE, 1), (WRITE, 1), (MERGE, 0)), None, ((-1, 0), (0, 2)), ((-1,), (2,))])

    def test_rules_into_nothing(self):
        self.assert_same([find_book((1, ((0, -1),), (0,), ((0, 0, -1),))), find_wrong(LOOSE) is None,
                          find_wrong((1, ((0, 0),), (0,), ((0, 0, -1),))),
                          find_wrong((1, ((-1, 0),), (0,), ((0, 0, -1),)))],
                         [((-1, 0), (0,)), False, ((WRITE, 0), (WRITE, 0), (MERGE, 0)), None])
        self.assertEqual(self.assert_one(LOOSE), 3)

    def test_equal_results_for_equal_arguments(self):
        for scheme in DOCUMENTED + WRONG_ONES + random_schemes(12, 60):
            twin = copy.deepcopy(scheme)
            self.assert_same([find_book(scheme), find_wrong(scheme)], [find_book(twin), find_wrong(twin)])
            self.assertEqual(scheme, twin)


class IsBook(StrictCase):
    def assert_all(self, scheme, values, wanted):
        for value in values:
            self.assertIs(is_book(scheme, value), wanted, (scheme, repr(value)[:300]))

    def test_all_states_and_operands(self):
        schemes = [TALLY, BAD, LOOSE, SWAP, HIDDEN, GONE, FULL, *BESIDE]
        for scheme in schemes + [scheme for scheme in random_schemes(13, 90) if scheme[0] < 3]:
            for states in subsets(range(-1, scheme[0])):
                for operands in subsets(range(len(scheme[1]))):
                    self.assert_all(scheme, [(states, operands)], own_is_book(scheme, states, operands))

    def test_larger_books(self):
        scheme = (2, ((0, 0, 0), (1, 1, 1), (-1, 0, 1)), (0,), ((0, 0, 0), (1, 0, 0), (1, 1, 1), (2, 2, 2)))
        self.assert_same(find_book(scheme), ((-1, 0), (0,)))
        self.assert_all(scheme, [((-1, 0), (0,)), ((-1, 0, 1), (0,)), ((-1, 0), (0, 1)), ((-1, 0), (0, 2)),
                                 ((-1, 0, 1), (0, 1, 2))], True)

    def test_left_out_put_in_twice_and_turned_about(self):
        self.assert_all(FULL, [
            ((0, 1), (0, 1, 2, 3)), ((-1, 1), (0, 1, 2, 3)), ((-1, 0), (0, 1, 2, 3)), ((), (0, 1, 2, 3)),
            ((-1, 0, 1), (1, 2, 3)), ((-1, 0, 1), (0, 1, 2)), ((-1, 0, 1), ()), ((-1, 0, 1, 2), (0, 1, 2, 3)),
            ((-2, -1, 0, 1), (0, 1, 2, 3)), ((-1, 0, 1), (0, 1, 2, 3, 4)), ((-1, 0, 1), (-1, 0, 1, 2, 3)),
            ((-1, 0, 0, 1), (0, 1, 2, 3)), ((-1, -1, 0, 1), (0, 1, 2, 3)), ((-1, 0, 1), (0, 1, 2, 3, 3)),
            ((0, -1, 1), (0, 1, 2, 3)), ((1, 0, -1), (0, 1, 2, 3)), ((-1, 0, 1), (3, 2, 1, 0)),
            ((0, 1, 2, 3), (-1, 0, 1))], False)
        self.assert_all(FULL, [((-1, 0, 1), (0, 1, 2, 3))], True)

    def test_a_wrong_rule_at_a_state_that_need_not_be_there(self):
        self.assert_all(HIDDEN, [((-1, 0), (0, 1))], True)
        self.assert_all(HIDDEN, [((-1, 0, 1), (0, 1))], False)
        self.assert_all(BESIDE[0], [((-1, 0), (0,)), ((-1, 0, 1), (0,))], True)
        self.assert_all(BESIDE[0], [((-1, 0), (0, 2)), ((-1, 0, 1), (0, 2)), ((-1, 0), (0, 1))], False)

    def test_lists_and_bools_at_any_depth(self):
        for scheme in (TALLY, FULL, SWAP, HIDDEN):
            book = find_book(scheme)
            self.assert_all(scheme, replaced(book, as_list) + replaced(book, as_bool), False)
            self.assert_all(scheme, replaced(book, as_odd), False)

    def test_parts_left_out_or_too_many(self):
        book = find_book(TALLY)
        self.assert_all(TALLY, [(), book[:1], book[1:], book + ((),), book + book, (book,), (book, book), book[0]],
                        False)

    def test_other_values(self):
        for scheme in (TALLY, BAD, SWAP):
            self.assert_all(scheme, ODD_VALUES + [0, 1, (), ((), ()), ("-1", "0"), {-1: 0, 0: 1}, ({-1: 0}, {0: 0}),
                                                  ((-1,) * 9000, (0,) * 9000)], False)

    def test_the_value_stays_as_it_is(self):
        for value in (([-1, 0, 1], [0, 1, 2]), [[-1], [0]], ((-1, 0, {1: 1}), (0, 1, 2))):
            before = copy.deepcopy(value)
            is_book(TALLY, value)
            self.assert_same(value, before)


class IsWrong(StrictCase):
    def assert_all(self, scheme, values, wanted):
        for value in values:
            self.assertIs(is_wrong(scheme, value), wanted, repr(value)[:300])

    def test_all_short_histories(self):
        for scheme in (BAD, GONE, LOOSE, with_written(BAD, (1,)), with_written(GONE, (0, 1)), SWAP):
            wrong = 0
            for many in range(5 if len(scheme[2]) == 3 else 6):
                for history, _ in all_histories(scheme, many):
                    wanted = own_is_wrong(scheme, history)
                    wrong += wanted
                    self.assertIs(is_wrong(scheme, history), wanted, history)
            self.assertEqual(wrong > 0, scheme != SWAP)

    def test_all_tuples_of_few_steps(self):
        for scheme in (with_written(BAD, (1,)), (1, ((0, -1),), (0,), ((0, 0, 0),))):
            for many in range(4):
                for history in itertools.product(steps_of_all_kinds(scheme), repeat=many):
                    self.assertIs(is_wrong(scheme, history), own_is_wrong(scheme, history), history)

    def test_a_held_snapshot_is_read_wrong(self):
        self.assert_all(BAD, [((WRITE, 1), (WRITE, 1), HOLD, (WRITE, 2), (MERGE, 0)),
                              ((WRITE, 1), (WRITE, 1), HOLD, (WRITE, 0), HOLD, (MERGE, 0)),
                              (HOLD, (WRITE, 1), HOLD, (WRITE, 1), HOLD, (WRITE, 2), ("let", 1), (MERGE, 0)),
                              ((WRITE, 2), (WRITE, 1), (WRITE, 1), HOLD, SETTLE, (WRITE, 2), (MERGE, 0))], True)
        self.assert_all(BAD, [((WRITE, 1), HOLD, (WRITE, 1), (WRITE, 2), (MERGE, 0)),
                              ((WRITE, 1), (WRITE, 1), (WRITE, 2), (MERGE, 0)),
                              ((WRITE, 1), (WRITE, 1), HOLD, (WRITE, 2), ("let", 0), (MERGE, 0)),
                              ((WRITE, 1), (WRITE, 1), HOLD, (WRITE, 2), (MERGE, 1)),
                              ((WRITE, 0), (WRITE, 1), (WRITE, 1), HOLD, (WRITE, 2), (MERGE, 0))], False)

    def test_what_was_wrong_below_is_seen_later(self):
        scheme = with_rules(BAD, BAD[3])
        hidden = ((WRITE, 1), (WRITE, 1), (WRITE, 2), (MERGE, 0))
        self.assert_all(scheme, [hidden, hidden + (SETTLE,), hidden + (HOLD,)], False)
        # The merge that hides is no longer in front, since it vanishes with the next one.
        scheme = with_rules(BAD, [rule for rule in BAD[3] if rule[:2] != (2, 2)] + [(2, 2, -1)])
        self.assert_all(scheme, [hidden + ((WRITE, 2), (MERGE, 1))], True)
        self.assert_all(scheme, [hidden + ((WRITE, 2),), hidden + ((WRITE, 2), (MERGE, 0))], False)

    def test_letting_go_and_settling(self):
        self.assert_all(BAD, [
            ((WRITE, 0), SETTLE, (WRITE, 2), SETTLE, (WRITE, 1), (WRITE, 1), (MERGE, 0)),
            (HOLD, (WRITE, 1), (WRITE, 1), ("let", 0), (MERGE, 0)), (HOLD, (WRITE, 1), (WRITE, 1), (MERGE, 0)),
            ((WRITE, 1), HOLD, (WRITE, 1), ("let", 0), (MERGE, 0))], True)
        self.assert_all(BAD, [
            ((WRITE, 0), SETTLE, (WRITE, 1), (WRITE, 1), (MERGE, 0)), ((WRITE, 1), SETTLE, (WRITE, 1), (MERGE, 0)),
            ((WRITE, 1), HOLD, (WRITE, 1), (MERGE, 0)), (HOLD, (WRITE, 0), SETTLE, (WRITE, 1), (WRITE, 1), (MERGE, 0)),
            (HOLD, (WRITE, 1), (WRITE, 1), ("let", 1), (MERGE, 0)), (SETTLE, (WRITE, 1), (WRITE, 1), (MERGE, 0)),
            (HOLD, HOLD, HOLD, HOLD, (WRITE, 1), (WRITE, 1), (MERGE, 0))], False)

    def test_letting_go_of_one_of_three(self):
        holds = (HOLD, (WRITE, 0), HOLD, (WRITE, 2), HOLD)
        last = ((WRITE, 1), (WRITE, 1), (MERGE, 2))
        for i in range(3):
            self.assert_all(BAD, [holds + (("let", i),) + last], True)
            self.assert_all(BAD, [holds + (("let", i), (WRITE, 2), (WRITE, 2), (MERGE, 2), (WRITE, 1), (WRITE, 1),
                                           (MERGE, 3))], True)
            self.assert_all(BAD, [holds + (("let", i), (WRITE, 2), (WRITE, 2), (MERGE, 2))], False)

    def test_told_histories_and_what_is_near_them(self):
        for scheme in [BAD, GONE, COUNT, LONGER_FIRST] + [scheme for scheme in random_schemes(14, 60)]:
            history = find_wrong(scheme)
            if history is None:
                continue
            self.assert_all(scheme, [history], True)
            for value in changed_histories(scheme, history, steps_of_all_kinds(scheme)):
                self.assertIs(is_wrong(scheme, value), own_is_wrong(scheme, value), (scheme, value))

    def test_told_histories_that_are_long(self):
        for scheme in (LONG_NOTHING, LONG_ROUND, LONG_EFFECT):
            history = find_wrong(scheme)
            self.assert_all(scheme, [history], True)
            self.assert_all(scheme, [history[:-1], history + (HOLD,), history + history, history[::-1],
                                     history[:-1] + (HOLD,), ((WRITE, 5),) + history], False)
            for value in (history[1:], history[:1] + history[2:], ((WRITE, 0), SETTLE) + history, (HOLD,) + history,
                          ((WRITE, 0), HOLD, SETTLE, ("let", 0)) + history, history[:-1] + (HOLD, history[-1])):
                self.assertIs(is_wrong(scheme, value), own_is_wrong(scheme, value), value)

    def test_histories_that_go_on(self):
        history = find_wrong(BAD)
        for step in own_steps(BAD, (-1, (1,), ())):
            self.assert_all(BAD, [history + (step,)], False)
        self.assert_all(BAD, [history + ((WRITE, 1), (MERGE, 0))], False)

    def test_histories_that_are_never_wrong(self):
        self.assert_all(BAD, [(), (HOLD,), ((WRITE, 1),), ((WRITE, 1), (WRITE, 1)),
                              ((WRITE, 0), (WRITE, 1), (WRITE, 1)), ((WRITE, 0), (WRITE, 1), (WRITE, 1), (MERGE, 1)),
                              ((WRITE, 2), (WRITE, 2), (MERGE, 0))],
                        False)
        for scheme in RIGHT_ONES:
            self.assert_all(scheme, [(), find_wrong(BAD), ((WRITE, 0), (WRITE, 0), (MERGE, 0))], False)

    def test_a_history_of_thousands_of_steps(self):
        start = ((WRITE, 1),) * 2 + (SETTLE,) * 2 + ((WRITE, 1),) * 3000
        merges = tuple((MERGE, k) for k in range(2998, -1, -1))
        last = (SETTLE, (WRITE, 2), (WRITE, 1), (WRITE, 1), (MERGE, 1))
        self.assert_all(BAD, [start + merges + last], True)
        self.assert_all(BAD, [start + merges + ((WRITE, 2),) + last, start + merges + last[:-1]], False)

    def test_steps_of_other_kinds(self):
        history = find_wrong(BAD)
        for value in replaced(history, as_list) + replaced(history, as_bool) + replaced(history, as_odd):
            self.assert_all(BAD, [value], False)
        for value in replaced(history, as_neighbour):
            self.assertIs(is_wrong(BAD, value), own_is_wrong(BAD, value), value)
        first = ((WRITE, 1), (WRITE, 1))
        for step in (MERGE, (MERGE,), (MERGE, 0, 0), (0, MERGE), ("Merge", 0), ("merge ", 0), (MERGE, "0"),
                     (MERGE, (0,)), ((MERGE, 0),), (MERGE, -1), (MERGE, 1), (MERGE, False), (MERGE, None), {MERGE: 0},
                     [MERGE, 0]):
            self.assert_all(BAD, [first + (step,), first + (step, (MERGE, 0))], False)
        for step in ("hold", (), ("hold", 0), ("hold", None), ("settle", 0), ("let",), ("let", 1), ("let", -1),
                     ("write",), ("write", 3), ("write", -1), ("write", True), ("write", 0, 0), ("read",), ("undo",),
                     None, 0, (("hold",),), ["hold"], {"hold": 0}):
            self.assert_all(BAD, [(step,) + history, (HOLD, step) + history], False)

    def test_other_values(self):
        for scheme in (BAD, TALLY, SWAP):
            for value in ODD_VALUES + [-1, (), list(find_wrong(BAD)), {0: (WRITE, 1)}, "merge", ("merge",),
                                       (HOLD, None)]:
                self.assert_all(scheme, [value, (value,), ((WRITE, value), (WRITE, 1), (MERGE, 0)),
                                         ((value, 1), (WRITE, 1), (MERGE, 0)), (HOLD, ("let", value))], False)

    def test_the_value_stays_as_it_is(self):
        for value in ((["write", 1], (WRITE, 1)), [(WRITE, 1)], ((WRITE, [1]), {1: [2]})):
            before = copy.deepcopy(value)
            is_wrong(BAD, value)
            self.assert_same(value, before)

    def test_a_told_history_can_be_walked(self):
        for scheme in WRONG_ONES:
            standing = beginning(scheme)
            for step in find_wrong(scheme):
                self.assertIn(step, own_steps(scheme, standing))
                standing = after(scheme, standing, step)


if __name__ == "__main__":
    unittest.main()
