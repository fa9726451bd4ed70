import copy
import itertools
import random
import unittest

from samples import (ALL_PAIRS, BAD, DOCUMENTED, DOUBLINGS, FULL, LOOSE, ODD_VALUES, OPEN, ROUNDS, SWAP, TALLY,
                     StrictCase, all_written, as_bool, as_list, as_odd, random_pairs, random_rules, random_schemes,
                     replaced, with_written)
from searches import own_is_stack, own_made, own_open_pairs, own_reached, walked
from stackedputs.readers import (are_read_ranks, final_operands, find_dear, find_dear_ring, find_read_ranks,
                                 greatest_price, is_dear_ring, price_of)
from stackedputs.stacks import find_ring

PUTS = (2, ((0, 0, 0), (1, 1, 1)), (0, 1), ())


def six_with_open(pairs, final=(), written=(0, 1, 2, 3, 4, 5)):
    """Six operands of which these are final, and a rule for each pair but these."""
    effects = tuple((-1, -1) if operand in final else (0, -1) for operand in range(6))
    return (1, effects, written, tuple((a, b, a) for a, b in ALL_PAIRS if (a, b) not in pairs))


# Only 0 and -1 are reached: 0 and 2 are final there, though not at 1; 1 is not; 3 is final, but not made.
THERE = (2, ((0, 0, 1), (0, -1, 1), (-1, -1, 0), (1, 1, 1)), (0, 1), ((0, 1, 2), (1, 1, -1)))
# Nothing leads away from absent: so all is final, whatever it does elsewhere.
STILL = (2, ((-1, 1, 0), (-1, 0, 1)), (0, 1), ())
# A chain of six without a final operand, and with one in the midst.
CHAIN = six_with_open([(5, 3), (3, 0), (0, 1), (1, 4), (4, 2)])
BROKEN = six_with_open([(5, 3), (3, 0), (0, 1), (1, 4), (4, 2)], (0,))
# A ring of three with a final operand in it: no row through it costs more than 3.
RING = six_with_open([(1, 2), (2, 3), (3, 1)], (3,))
# The same, and another one without.
RINGS = six_with_open([(1, 2), (2, 3), (3, 1), (2, 4), (4, 5), (5, 2)], (3,))
LOOP = six_with_open([(4, 4), (0, 4)], (0,))
FINAL_LOOP = six_with_open([(4, 4), (4, 0), (0, 4)], (4,))
SCHEMES = DOCUMENTED + [PUTS, THERE, STILL, CHAIN, BROKEN, RING, RINGS, LOOP, FINAL_LOOP, DOUBLINGS, ROUNDS]


def schemes_with_nearly_all_rules(seed, many):
    rng = random.Random(seed)
    found = []
    for at in range(many):
        pairs = random_pairs(rng, at % 2 == 0)
        final = rng.sample(range(6), rng.randint(0, 5))
        found.append(six_with_open(pairs, final, tuple(sorted(rng.sample(range(6), rng.randint(1, 6))))))
    return found


def schemes_with_few_reached(seed, many):
    """Schemes in which some states are not reached, and operands that are final only at those that are."""
    rng = random.Random(seed)
    found = []
    for _ in range(many):
        v = rng.randint(2, 4)
        effects = tuple(tuple(rng.choice([-1, 0]) for _ in range(2)) + tuple(rng.randrange(-1, v) for _ in range(v - 1))
                        for _ in range(rng.randint(2, 4)))
        written = tuple(sorted(rng.sample(range(len(effects)), rng.randint(1, len(effects)))))
        found.append((v, effects, written, random_rules(rng, len(effects), 0.7)))
    return found


def many_schemes(seed):
    return (SCHEMES + random_schemes(seed, 150) + schemes_with_nearly_all_rules(seed, 200)
            + schemes_with_few_reached(seed, 100))


def own_final(scheme):
    states = own_reached(scheme)
    return [operand for operand in range(len(scheme[1]))
            if len({walked(scheme, state, (operand,)) for state in states}) == 1]


def own_price(scheme, row):
    final = own_final(scheme)
    for many, operand in enumerate(reversed(row), 1):
        if operand in final:
            return many
    return len(row) + 1


def own_greatest_price(scheme):
    """The greatest price of a stack, by stacks of more and more operands that are not final, or None."""
    final = own_final(scheme)
    pairs = [pair for pair in own_open_pairs(scheme) if pair[0] not in final and pair[1] not in final]
    last = {operand for operand in own_made(scheme) if operand not in final}
    for many in range(len(scheme[1]) + 1):
        # These are the operands with which some stack of one operand more that are not final ends.
        if not last:
            return many + 1
        last = {b for a, b in pairs if a in last}
    return None


def own_are_read_ranks(scheme, ranks):
    final = own_final(scheme)
    return (sorted(ranks) == own_made(scheme) and all(type(rank) is int and rank >= 1 for rank in ranks.values())
            and all(ranks[operand] >= 2 for operand in ranks if operand not in final)
            and all(ranks[b] > ranks[a] for a, b in own_open_pairs(scheme) if b not in final))


def own_is_dear_ring(scheme, row):
    return len(row) > 0 and own_is_stack(scheme, row + row[:1]) and not set(row) & set(own_final(scheme))


class Examples(StrictCase):
    def test_finals_and_prices(self):
        self.assert_same(
            [final_operands(FULL), price_of(FULL, (0, 2, 1)), price_of(FULL, (1, 1)), price_of(FULL, ()),
             greatest_price(FULL), greatest_price(TALLY), greatest_price(PUTS)],
            [[0, 2, 3], 2, 3, 1, 2, None, 1])

    def test_dear_stacks_and_rings(self):
        self.assert_same(
            [find_dear(FULL), find_dear(TALLY), find_dear_ring(PUTS), find_ring(PUTS) is None,
             is_dear_ring(TALLY, (1,)), is_dear_ring(TALLY, (0, 1))],
            [(1,), None, None, False, True, False])

    def test_read_ranks(self):
        self.assert_same(
            [are_read_ranks(PUTS, {0: 1, 1: 1}), are_read_ranks(FULL, {0: 1, 1: 1, 2: 1, 3: 1}),
             are_read_ranks(FULL, {0: 5, 1: 2, 2: 1, 3: 1}), are_read_ranks(OPEN, {0: 1, 1: 2, 2: 2, 3: 1})],
            [True, False, True, False])


class FinalOperands(StrictCase):
    def test_against_the_tests_own(self):
        found = []
        for scheme in many_schemes(170):
            told = final_operands(scheme)
            found.append((len(told) > 0, len(told) == len(scheme[1])))
            self.assert_same(told, own_final(scheme))
        self.assertEqual(set(found), {(False, False), (True, False), (True, True)})

    def test_told_one_by_one(self):
        self.assert_same([final_operands(THERE), final_operands(with_written(THERE, (0, 1, 3))), final_operands(STILL),
                          final_operands(SWAP), final_operands(with_written(STILL, (0,))), final_operands(RING),
                          final_operands((2, STILL[1] + ((0, 0, 1),), (2,), ())), final_operands(TALLY)],
                         [[0, 2, 3], [3], [0, 1], [], [0, 1], [3], [2], [0, 2]])

    def test_the_same_scheme_with_other_written_operands_by_turns(self):
        for _ in range(2):
            for scheme in (THERE, FULL, TALLY, LOOSE):
                for written in all_written(scheme):
                    other = with_written(scheme, written)
                    self.assert_same([final_operands(other), greatest_price(other), price_of(other, (0, 1, 1))],
                                     [own_final(other), own_greatest_price(other), own_price(other, (0, 1, 1))])

    def test_told_lists_belong_to_the_caller(self):
        for _ in range(2):
            told = final_operands(FULL)
            self.assert_same(told, [0, 2, 3])
            told.clear()


class PriceOf(StrictCase):
    def test_rows_of_none_to_seven_operands(self):
        rng = random.Random(171)
        for scheme in many_schemes(171):
            for many in range(8):
                row = tuple(rng.choices(range(len(scheme[1])), k=many))
                self.assert_same(price_of(scheme, row), own_price(scheme, row))

    def test_all_short_rows(self):
        for scheme in (THERE, FULL, STILL, SWAP, TALLY):
            for many in range(5):
                for row in itertools.product(range(len(scheme[1])), repeat=many):
                    self.assert_same(price_of(scheme, row), own_price(scheme, row))

    def test_told_one_by_one(self):
        rows = ((1,), (0,), (1, 1, 1), (0, 1, 1), (1, 0), (3, 1, 0, 1), (2, 1, 1, 1))
        self.assert_same([price_of(FULL, row) for row in rows], [2, 1, 4, 3, 1, 2, 4])
        self.assert_same([price_of(SWAP, (0,) * 7), price_of(STILL, (0, 1, 0)), price_of(THERE, (2, 1)),
                          price_of(THERE, (3, 1, 1)), price_of(SWAP, ()), price_of(TALLY, (2,) + (1,) * 5000)],
                         [8, 1, 2, 3, 1, 5001])


class RanksOrRing(StrictCase):
    def assert_one(self, scheme):
        """Returns the greatest price, or None if a dear ring is told."""
        wanted = own_greatest_price(scheme)
        price, row, ranks, ring = (greatest_price(scheme), find_dear(scheme), find_read_ranks(scheme),
                                   find_dear_ring(scheme))
        self.assert_same(price, wanted)
        self.assertEqual([row is None, ranks is None, ring is not None], [wanted is None] * 3, scheme)
        if wanted is None:
            self.assertIs(type(ring), tuple)
            self.assertTrue(own_is_dear_ring(scheme, ring), (scheme, ring))
            self.assertIs(is_dear_ring(scheme, ring), True)
            return None
        self.assertIs(type(row), tuple)
        self.assertTrue(own_is_stack(scheme, row), (scheme, row))
        self.assertEqual([own_price(scheme, row), max(ranks.values())], [wanted, wanted], (scheme, row, ranks))
        self.assertTrue(all(type(key) is int for key in ranks))
        self.assertTrue(own_are_read_ranks(scheme, ranks), (scheme, ranks))
        self.assertIs(are_read_ranks(scheme, ranks), True)
        return wanted

    def test_many_schemes(self):
        found = [self.assert_one(scheme) for scheme in many_schemes(172)]
        self.assertEqual(set(found), {None, 1, 2, 3, 4, 5, 6, 7})

    def test_told_one_by_one(self):
        schemes = (CHAIN, BROKEN, RING, RINGS, LOOP, FINAL_LOOP, PUTS, STILL, SWAP, DOUBLINGS)
        self.assertEqual([self.assert_one(scheme) for scheme in schemes], [7, 4, 3, None, None, 2, 1, 1, None, 1])
        self.assert_same([find_dear(CHAIN), find_dear(BROKEN)[-3:], find_dear(RING)[-2:], find_read_ranks(BROKEN)],
                         [(5, 3, 0, 1, 4, 2), (1, 4, 2), (1, 2), {0: 1, 1: 2, 2: 4, 3: 3, 4: 3, 5: 2}])
        self.assert_same([find_dear_ring(LOOP), find_dear_ring(SWAP), sorted(find_dear_ring(RINGS))],
                         [(4,), (0,), [2, 4, 5]])

    def test_stacks_against_all_rows(self):
        for scheme in SCHEMES + random_schemes(173, 40):
            price = greatest_price(scheme)
            most = 4 if len(scheme[1]) < 6 else 3
            rows = [row for many in range(most + 1) for row in itertools.product(own_made(scheme), repeat=many)]
            prices = [own_price(scheme, row) for row in rows if own_is_stack(scheme, row)]
            if price is None or price > most:
                self.assertEqual(max(prices), most + 1, scheme)
            else:
                self.assertEqual(max(prices), price, scheme)

    def test_each_order_of_a_chain_and_of_a_ring(self):
        for order in itertools.permutations(range(6)):
            self.assert_same(find_dear(six_with_open(list(zip(order, order[1:])))), order)
        for order in itertools.permutations(range(5)):
            ring = list(zip(order, order[1:] + order[:1]))
            self.assertIsNone(self.assert_one(six_with_open(ring + [(5, order[0])])))
            # With a final one in it: from this one on all the others can stand in a row.
            self.assertEqual(self.assert_one(six_with_open(ring, order[:1])), 5)

    def test_told_dicts_belong_to_the_caller(self):
        for scheme in (OPEN, CHAIN, PUTS):
            before = copy.deepcopy(find_read_ranks(scheme))
            find_read_ranks(scheme).clear()
            self.assert_same(find_read_ranks(scheme), before)

    def test_equal_results_for_equal_arguments_which_stay(self):
        for scheme in many_schemes(174):
            twin = copy.deepcopy(scheme)
            self.assert_same([find_dear(scheme), find_read_ranks(scheme), find_dear_ring(scheme)],
                             [find_dear(twin), find_read_ranks(twin), find_dear_ring(twin)])
            self.assertEqual(scheme, twin)


class AreReadRanks(StrictCase):
    def assert_all(self, scheme, values, wanted):
        for value in values:
            self.assertIs(are_read_ranks(scheme, value), wanted, (scheme, repr(value)[:300]))

    def test_all_small_numbers(self):
        for scheme in (OPEN, FULL, BAD, PUTS, SWAP, STILL, THERE, TALLY, *random_schemes(175, 25)):
            keys = own_made(scheme)
            for numbers in itertools.product(range(5 if len(keys) < 4 else 4), repeat=len(keys)):
                ranks = dict(zip(keys, numbers))
                self.assert_all(scheme, [ranks], own_are_read_ranks(scheme, ranks))

    def test_a_number_that_is_lowered_or_raised(self):
        for scheme in (CHAIN, BROKEN, RING):
            told = find_read_ranks(scheme)
            for operand, rank in told.items():
                for number in (rank - 1, rank + 1, 0, 1, -1, 10 ** 59):
                    value = {**told, operand: number}
                    self.assert_all(scheme, [value], own_are_read_ranks(scheme, value))
        told = find_read_ranks(CHAIN)
        self.assert_all(CHAIN, [{**told, operand: told[operand] - 1} for operand in told], False)

    def test_keys_left_out_and_put_in(self):
        for scheme in (OPEN, CHAIN, PUTS, BROKEN, with_written(FULL, (0,))):
            told = find_read_ranks(scheme)
            self.assert_all(scheme, [{k: told[k] for k in told if k != operand} for operand in told], False)
            others = [key for key in (-1, 0, 1, 2, 3, 6, 10 ** 59, None, "0", (), (0,), "") if key not in told]
            self.assert_all(scheme, [{**told, key: 5} for key in others], False)
            self.assert_all(scheme, [{}], False)

    def test_operands_that_are_not_final_have_two_at_the_least(self):
        # RING has no open pairs with 0: nothing but this keeps its number from being 1.
        told = find_read_ranks(RING)
        self.assert_all(RING, [told, {**told, 0: 2}, {**told, 3: 9, 1: 10, 2: 11}], True)
        self.assert_all(RING, [{**told, 0: 1}, {**told, 3: 0}, {**told, 3: 2}, {**told, 3: 9, 1: 10, 2: 10}], False)

    def test_where_there_is_a_dear_ring_nothing_is_read_ranks(self):
        for scheme in (TALLY, RINGS, LOOP, SWAP):
            keys = own_made(scheme)
            values = [dict.fromkeys(keys, 2), {k: k + 2 for k in keys}, {k: 9 - k for k in keys}, {}]
            self.assert_all(scheme, values, False)

    def test_odd_keys_and_numbers(self):
        for scheme in (OPEN, PUTS, with_written(TALLY, (0,))):
            told = find_read_ranks(scheme)
            self.assert_all(scheme, replaced(told, as_bool), False)
            for value in replaced(told, as_odd):
                if not (isinstance(value, dict) and all(type(item) is int for pair in value.items() for item in pair)):
                    self.assert_all(scheme, [value], False)
        self.assert_all(PUTS, [{0: 1, True: 1}, {False: 1, 1: 1}, {0: True, 1: 1}, {0: 1, 1: None}, {0: 1, 1: (1,)},
                               {0: [1], 1: 1}, {0: "1", 1: 1}], False)

    def test_other_values(self):
        for scheme in (OPEN, FULL, PUTS):
            self.assert_all(scheme, ODD_VALUES + [(), 0, 1, [1, 2, 1, 1], tuple(find_read_ranks(OPEN).items())], False)


class IsDearRing(StrictCase):
    def assert_all(self, scheme, values, wanted):
        for value in values:
            self.assertIs(is_dear_ring(scheme, value), wanted, (scheme, repr(value)[:300]))

    def test_all_short_tuples(self):
        for scheme in SCHEMES + random_schemes(176, 20):
            for many in range(4):
                for row in itertools.product(range(-1, len(scheme[1]) + 1), repeat=many):
                    self.assertIs(is_dear_ring(scheme, row), own_is_dear_ring(scheme, row), (scheme, row))

    def test_turned_about_gone_round_twice_and_with_a_final_operand(self):
        self.assert_all(RINGS, [(2, 4, 5), (4, 5, 2), (5, 2, 4), (2, 4, 5, 2, 4, 5), (2, 4, 5) * 3000], True)
        self.assert_all(RINGS, [(1, 2, 3), (2, 3, 1), (5, 4, 2), (2, 4), (2,), (), (2, 4, 5, 2), (2, 4, 5, 2, 3, 1),
                                (2, 4, 5) * 3000 + (2,)], False)
        self.assert_all(RING, [(1, 2, 3), (2, 3, 1), (3, 1, 2)], False)
        self.assert_all(FINAL_LOOP, [(4,), (4, 4), (4, 0), (0, 4)], False)
        self.assert_all(PUTS, [(0,), (1,), (0, 1)], False)

    def test_an_operand_that_is_changed_or_put_in(self):
        for at, operand in itertools.product(range(3), range(-2, 8)):
            value = (2, 4, 5)[:at] + (operand,) + (2, 4, 5)[at + 1:]
            self.assert_all(RINGS, [value], value == (2, 4, 5))
            self.assert_all(RINGS, [(2, 4, 5)[:at] + (operand,) + (2, 4, 5)[at:]], False)

    def test_operands_that_are_not_made(self):
        scheme = with_written(RINGS, (0, 1))
        self.assert_all(scheme, [(2, 4, 5), (4, 5, 2)], False)
        self.assert_all(with_written(RINGS, (2, 4, 5)), [(2, 4, 5), (4, 5, 2)], True)

    def test_lists_bools_and_other_values(self):
        for scheme, ring in ((TALLY, (1, 1)), (SWAP, (0,)), (RINGS, (2, 4, 5))):
            self.assert_all(scheme, [ring], True)
            self.assert_all(scheme, replaced(ring, as_list) + replaced(ring, as_bool) + replaced(ring, as_odd), False)
        self.assert_all(TALLY, ODD_VALUES + [(), 0, 1, "1", [1], {1: 1}, ((1,),), (1, (1,))], False)

    def test_the_value_stays_as_it_is(self):
        for value in ([1, 1], ([1], 1), {1: [1]}):
            before = copy.deepcopy(value)
            self.assert_same([is_dear_ring(TALLY, value), are_read_ranks(TALLY, value)], [False] * 2)
            self.assert_same(value, before)


if __name__ == "__main__":
    unittest.main()
