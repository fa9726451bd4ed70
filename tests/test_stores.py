import copy
import itertools
import random
import unittest

from records import NO_NUMBERS, Record, call_on, error_of, random_call, random_odd_call
from samples import (BAD, DOCUMENTED, FULL, LOOSE, ODD_VALUES, OPEN, SWAP, TALLY, StrictCase, random_schemes,
                     with_rules, with_written)
from stackedputs.errors import InvalidHold, InvalidKey, InvalidOperand, NoMerge, NoSettle, TooManyHolds
from stackedputs.stores import Store

# All operands vanish in pairs of the same.
PAIRS = (1, ((0, -1),) * 3, (0, 1, 2), ((0, 0, -1), (1, 1, -1), (2, 2, -1)))
# 0 and 1 vanish, 1 and 0 make 2, 2 takes 1 in: so the order of merging counts.
SEVERAL = (1, ((0, 0),) * 3, (0, 1), ((0, 1, -1), (1, 0, 2), (1, 2, 1), (2, 1, 0)))
SCHEMES = DOCUMENTED + [PAIRS, SEVERAL, with_written(FULL, (1, 2))]


class StoreCase(StrictCase):
    def assert_as(self, store, record):
        """Checks all that can be asked of the store against the record."""
        keys = range(record.keys)
        self.assert_same([store.standing_of(key) for key in keys], record.standings)
        self.assert_same([store.plain(key) for key in keys], record.plains)
        self.assert_same([store.read(key) for key in keys], record.reads())
        self.assert_same([store.held(), len(store)], [record.held, record.cells()])
        for number in record.held:
            self.assert_same([store.read_held(number, key) for key in keys], record.reads_held(number))

    def assert_call(self, store, record, call):
        """Makes the call on both, where it must raise nothing, and checks what the store returns."""
        self.assertIsNone(record.wanted_error(call))
        self.assert_same(call_on(store, call), record.make(call))
        self.assert_as(store, record)

    def assert_refused(self, store, record, call):
        wanted = record.wanted_error(call)
        self.assertIsNotNone(wanted)
        found = error_of(store, call)
        self.assertIs(found and found[0], wanted[0], call)
        self.assert_same(found[1:], wanted[1:])
        self.assert_as(store, record)

    def assert_undo(self, store, record):
        self.assert_same(store.undo(), record.undo())
        self.assert_as(store, record)

    def made(self, scheme, keys, calls):
        """A store on which these calls were made."""
        store = Store(scheme, keys)
        for call in calls:
            call_on(store, call)
        return store


class Examples(StoreCase):
    def test_of_the_document(self):
        store = Store(TALLY, 2)
        self.assert_same(
            [store.write(0, 1), store.hold(), store.write(0, 0), store.read(0), store.read_held(0, 0), store.read(1),
             store.standing_of(0), len(store)],
            [None, 0, None, 0, 0, -1, (-1, (1, 0), (1,)), 2])
        self.assert_same(
            [store.compact(0), store.let(0), store.compact(0), store.standing_of(0), store.held(), store.undo(),
             store.undo(), store.held()],
            [0, None, 1, (-1, (0,), ()), [], ('compact', 0), ('let', 0), [0]])
        with self.assertRaises(NoMerge) as context:
            store.merge(0, 0)
        self.assert_same([context.exception.key, context.exception.index], [0, 0])


class Beginning(StoreCase):
    def test_each_key_has_the_beginning(self):
        for scheme in SCHEMES:
            for keys in range(1, 5):
                store = Store(scheme, keys)
                self.assert_as(store, Record(scheme, keys))
                self.assert_same([store.undo(), len(store), store.held()], [None, 0, []])
                self.assert_same([store.standing_of(key) for key in range(keys)], [(-1, (), ())] * keys)


class Calls(StoreCase):
    def test_write(self):
        store, record = Store(FULL, 3), Record(FULL, 3)
        for call in (("write", 0, 1), ("write", 2, 0), ("write", 0, 1), ("write", 0, 2), ("write", 1, 1)):
            self.assert_call(store, record, call)
        self.assert_same([store.standing_of(0), store.plain(0), store.read(0), store.plain(2), len(store)],
                         [(-1, (1, 1, 2), ()), -1, -1, 0, 5])
        # Operand 3 is one of the scheme, but it is not written.
        for call in (("write", 0, 3), ("write", 0, 4), ("write", 3, 0), ("write", -1, 0), ("write", 3, 3)):
            self.assert_refused(store, record, call)

    def test_merge(self):
        store, record = Store(TALLY, 2), Record(TALLY, 2)
        for call in [("write", 1, operand) for operand in (1, 1, 0, 1, 2)] + [("write", 0, 0)]:
            self.assert_call(store, record, call)
        for call in (("merge", 1, 0), ("merge", 1, 2), ("merge", 1, 4), ("merge", 1, 5), ("merge", 1, -1),
                     ("merge", 0, 0), ("merge", 2, 1)):
            self.assert_refused(store, record, call)
        for call in (("merge", 1, 3), ("merge", 1, 1), ("merge", 1, 0), ("merge", 1, 0)):
            self.assert_call(store, record, call)
        self.assert_same([store.standing_of(1), len(store), error_of(store, ("merge", 1, 0))],
                         [(-1, (2,), ()), 2, (NoMerge, 1, 0)])

    def test_merge_with_held_snapshots(self):
        store, record = Store(LOOSE, 2), Record(LOOSE, 2)
        for call in (("hold",), ("write", 0, 1), ("write", 0, 1), ("write", 0, 1), ("hold",), ("write", 0, 1)):
            self.assert_call(store, record, call)
        self.assert_refused(store, record, ("merge", 0, 2))
        # Into nothing: the position behind both cells goes down by 2, that before them stays.
        self.assert_call(store, record, ("merge", 0, 0))
        self.assert_same(store.standing_of(0), (-1, (1, 1), (0, 1)))
        self.assert_refused(store, record, ("merge", 0, 0))
        self.assert_call(store, record, ("let", 1))
        self.assert_call(store, record, ("merge", 0, 0))
        self.assert_same([store.standing_of(0), store.standing_of(1)], [(-1, (), (0,)), (-1, (), (0,))])

    def test_settle(self):
        store, record = Store(TALLY, 2), Record(TALLY, 2)
        self.assert_refused(store, record, ("settle", 0))
        for call in (("write", 0, 1), ("write", 0, 1), ("settle", 0), ("settle", 0)):
            self.assert_call(store, record, call)
        self.assert_same([store.standing_of(0), store.read(0), store.plain(0)], [(1, (), ()), 1, 1])
        for call in (("settle", 0), ("settle", 1), ("settle", 2)):
            self.assert_refused(store, record, call)

    def test_settle_with_held_snapshots(self):
        store, record = Store(TALLY, 2), Record(TALLY, 2)
        for call in (("write", 0, 1), ("hold",), ("write", 0, 1), ("write", 1, 0), ("settle", 0)):
            self.assert_call(store, record, call)
        self.assert_same([store.standing_of(0), store.standing_of(1)], [(0, (1,), (0,)), (-1, (0,), (0,))])
        for call in (("settle", 0), ("settle", 1)):
            self.assert_refused(store, record, call)
        self.assert_same([store.read_held(0, 0), store.read_held(0, 1)], [0, -1])
        for call in (("let", 0), ("settle", 0), ("settle", 1)):
            self.assert_call(store, record, call)

    def test_compact(self):
        store, record = Store(FULL, 2), Record(FULL, 2)
        self.assert_call(store, record, ("compact", 1))
        for operand in (0, 1, 2, 1, 1, 0, 1):
            self.assert_call(store, record, ("write", 1, operand))
        self.assert_refused(store, record, ("compact", 2))
        self.assert_same(store.compact(1), record.make(("compact", 1)))
        self.assert_same([store.standing_of(1), store.standing_of(0)], [(-1, (3,), ()), (-1, (), ())])
        self.assert_same([store.compact(1), store.compact(0)], [0, 0])

    def test_compact_always_merges_at_the_least_index(self):
        for row, end, many in (((0, 1, 0), (0,), 1), ((1, 0, 1), (0,), 2), ((1, 0, 1, 1), (), 3),
                               ((1, 1, 0, 1), (1, 1), 2), ((1, 1, 0, 0), (2,), 3), ((0, 1, 1, 0, 1), (0,), 3),
                               ((0, 0, 1, 1), (), 2)):
            store = self.made(SEVERAL, 2, [("write", 1, operand) for operand in row])
            self.assert_same([store.compact(1), store.standing_of(1), len(store)], [many, (-1, end, ()), len(end)])

    def test_compact_of_all_short_rows_with_all_held_positions(self):
        for scheme, most in ((SEVERAL, 6), (PAIRS, 5), (LOOSE, 5)):
            for many in range(most + 1):
                for row in itertools.product(scheme[2], repeat=many):
                    for holds in [(), (many // 2,), (0, max(0, many - 1))]:
                        store, record = Store(scheme, 1), Record(scheme, 1)
                        for call in self.calls_to(row, holds) + [("compact", 0)]:
                            self.assert_same(call_on(store, call), record.make(call))
                        self.assert_as(store, record)

    def calls_to(self, row, holds):
        calls = []
        for at in range(len(row) + 1):
            calls += [("hold",)] * holds.count(at) + [("write", 0, operand) for operand in row[at:at + 1]]
        return calls

    def test_compact_with_merges_that_snapshots_bar(self):
        store, record = Store(FULL, 1), Record(FULL, 1)
        for call in (("write", 0, 1), ("hold",), ("write", 0, 1), ("write", 0, 0), ("hold",), ("write", 0, 2),
                     ("compact", 0)):
            self.assert_call(store, record, call)
        self.assert_same(store.standing_of(0), (-1, (1, 0, 2), (1, 2)))
        for call in (("let", 0), ("compact", 0), ("compact", 0), ("let", 1), ("compact", 0)):
            self.assert_call(store, record, call)
        self.assert_same(store.standing_of(0), (-1, (2,), ()))

    def test_hold_and_let(self):
        store, record = Store(TALLY, 3), Record(TALLY, 3)
        for call in (("write", 0, 1), ("hold",), ("write", 1, 0), ("hold",), ("write", 0, 2), ("hold",)):
            self.assert_call(store, record, call)
        self.assert_refused(store, record, ("hold",))
        self.assert_same([store.standing_of(key)[2] for key in range(3)], [(1, 1, 2), (0, 1, 1), (0, 0, 0)])
        for call in (("let", 3), ("let", -1)):
            self.assert_refused(store, record, call)
        self.assert_call(store, record, ("let", 1))
        self.assert_refused(store, record, ("let", 1))
        self.assert_same([store.held(), store.standing_of(0)[2], store.standing_of(1)[2]], [[0, 2], (1, 2), (0, 1)])
        self.assert_same([store.read_held(2, 0), store.read_held(0, 0), store.read_held(2, 1), store.read_held(0, 1)],
                         [-1, 0, 0, -1])

    def test_numbers_go_on_and_go_back_with_undo(self):
        store = Store(SWAP, 1)
        self.assert_same([store.hold(), store.hold(), store.let(0), store.hold(), store.let(2), store.let(1)],
                         [0, 1, None, 2, None, None])
        self.assert_same([store.hold(), store.undo(), store.hold(), store.held()], [3, ("hold",), 3, [3]])
        self.assert_same([store.undo(), store.undo(), store.undo(), store.held()],
                         [("hold",), ("let", 1), ("let", 2), [1, 2]])
        self.assert_same([store.hold(), store.undo(), store.undo(), store.hold(), store.held()],
                         [3, ("hold",), ("hold",), 2, [1, 2]])
        self.assert_same([store.undo() for _ in range(5)], [("hold",), ("let", 0), ("hold",), ("hold",), None])
        self.assert_same([store.hold(), store.held()], [0, [0]])

    def test_undo_of_every_kind_of_call(self):
        begin = [("write", 0, 1), ("hold",), ("write", 0, 1), ("write", 0, 0), ("write", 1, 2), ("hold",),
                 ("write", 1, 0)]
        for call in (("write", 1, 1), ("merge", 0, 1), ("settle", 0), ("compact", 0), ("compact", 1), ("hold",),
                     ("let", 0), ("let", 1)):
            store, record = Store(TALLY, 2), Record(TALLY, 2)
            for other in begin:
                self.assert_call(store, record, other)
            self.assert_call(store, record, call)
            self.assert_same(store.undo(), call)
            record.undo()
            self.assert_as(store, record)
            self.assertEqual(store, self.made(TALLY, 2, begin))
            for other in begin[::-1]:
                self.assert_same(store.undo(), other)
            self.assert_same([store.undo(), store.undo()], [None, None])
            self.assertEqual(store, Store(TALLY, 2))

    def test_a_compaction_of_several_merges_is_taken_back_at_once(self):
        store = self.made(FULL, 1, [("write", 0, operand) for operand in (1, 1, 2, 0, 1)])
        before = store.standing_of(0)
        self.assert_same([store.compact(0), store.standing_of(0)], [4, (-1, (3,), ())])
        self.assert_same([store.undo(), store.standing_of(0), store.undo()], [("compact", 0), before, ("write", 0, 1)])

    def test_undo_does_not_count_what_was_refused_or_only_asked(self):
        store = Store(TALLY, 1)
        store.write(0, 1)
        for call in (("write", 0, 3), ("settle", 1), ("merge", 0, 0), ("let", 0), ("compact", 7), ("read", 0),
                     ("plain", 0), ("standing_of", 0), ("held",), ("read_held", 0, 0)):
            error_of(store, call)
        len(store), store == Store(TALLY, 1)
        self.assert_same([store.undo(), store.undo(), len(store)], [("write", 0, 1), None, 0])

    def test_told_lists_belong_to_the_caller(self):
        store = Store(TALLY, 1)
        store.hold()
        told = store.held()
        told.append(7)
        self.assert_same([store.held(), store.hold(), store.held()], [[0], 1, [0, 1]])
        told = store.held()
        store.let(0)
        self.assert_same(told, [0, 1])

    def test_two_stores_of_one_scheme_have_nothing_in_common(self):
        one, other = Store(TALLY, 2), Store(TALLY, 2)
        one.write(0, 1)
        one.hold()
        self.assert_same([other.standing_of(0), other.held(), other.undo(), other.plain(0)],
                         [(-1, (), ()), [], None, -1])


class Histories(StoreCase):
    def test_short_ones_against_a_record(self):
        rng = random.Random(140)
        for at, scheme in enumerate(SCHEMES + random_schemes(140, 60)):
            keys = at % 4 + 1
            store, record = Store(scheme, keys), Record(scheme, keys)
            for _ in range(25):
                call = random_odd_call(rng) if rng.random() < 0.4 else random_call(rng, record)
                if record.wanted_error(call) is None:
                    self.assert_call(store, record, call)
                else:
                    self.assert_refused(store, record, call)
                if rng.random() < 0.15:
                    self.assert_undo(store, record)
            while record.log:
                self.assert_undo(store, record)
            self.assert_same(store.undo(), None)

    def test_long_ones_all_taken_back(self):
        stores = ((1, TALLY), (2, FULL), (3, LOOSE), (4, SEVERAL), (2, BAD), (4, OPEN), (1, PAIRS), (3, SWAP))
        for keys, scheme in stores:
            rng = random.Random(141 + keys)
            store, record = Store(scheme, keys), Record(scheme, keys)
            words = set()
            for at in range(150):
                call = random_call(rng, record)
                words.add(call[0])
                self.assert_call(store, record, call)
                if at % 10 == 9:
                    self.assert_refused(store, record, ("write", keys, 0))
            self.assertTrue({"write", "settle", "compact", "hold", "let"} <= words)
            twin = self.made(scheme, keys, [call for call, _ in record.log])
            self.assertEqual(store, twin)
            for _ in range(150):
                self.assert_undo(store, record)
            self.assert_same([store.undo(), store.undo()], [None, None])
            self.assertEqual(store, Store(scheme, keys))
            self.assertNotEqual(store, twin)


class Errors(StoreCase):
    def odd_stores(self):
        begin = [("write", 0, 1), ("hold",), ("write", 0, 1), ("write", 0, 0), ("write", 1, 2)]
        for keys in range(1, 5):
            calls = [call for call in begin if call[0] == "hold" or call[1] < keys]
            store, record = self.made(TALLY, keys, calls), Record(TALLY, keys)
            for call in calls:
                record.make(call)
            yield store, record, self.made(TALLY, keys, calls), calls

    def assert_all(self, calls):
        """Makes the calls on several stores; those that are refused must change nothing."""
        for store, record, twin, made in self.odd_stores():
            for call in calls:
                if record.wanted_error(call) is not None:
                    self.assert_refused(store, record, call)
                    self.assertEqual(store, twin)
            self.assert_same(store.undo(), made[-1])

    def test_odd_keys(self):
        for value in NO_NUMBERS + ODD_VALUES + [4, 5]:
            self.assert_all([("write", value, 0), ("merge", value, 1), ("settle", value), ("compact", value)])

    def test_odd_operands(self):
        for value in NO_NUMBERS + ODD_VALUES + [3, 4]:
            self.assert_all([("write", 0, value)])

    def test_odd_indices(self):
        for value in NO_NUMBERS + ODD_VALUES + [0, 2, 3]:
            self.assert_all([("merge", 0, value)])

    def test_odd_numbers(self):
        for value in NO_NUMBERS + ODD_VALUES + [1, 2, 3]:
            self.assert_all([("let", value)])

    def test_what_only_asks(self):
        for value in NO_NUMBERS + ODD_VALUES + [4, 5]:
            store = self.made(TALLY, 4, [("write", 0, 1), ("hold",), ("write", 0, 2)])
            twin = self.made(TALLY, 4, [("write", 0, 1), ("hold",), ("write", 0, 2)])
            for call, wanted in ((("read", value), InvalidKey), (("plain", value), InvalidKey),
                                 (("read_held", 0, value), InvalidKey), (("read_held", value, 0), InvalidHold),
                                 (("read_held", value, value), InvalidHold), (("read_held", value, 4), InvalidHold)):
                found = error_of(store, call)
                self.assertIs(found and found[0], wanted, call)
                self.assert_same(found[1:], (value,))
                self.assertEqual(store, twin)

    def test_the_number_of_keys_is_the_first_that_is_none(self):
        for keys in range(1, 5):
            store = Store(TALLY, keys)
            for key in range(6):
                wanted = None if key < keys else (InvalidKey, key)
                for call in (("read", key), ("plain", key), ("compact", key), ("write", key, 0)):
                    self.assert_same(error_of(store, call), wanted)

    def test_of_several_errors_the_one_that_is_listed_first(self):
        store = Store(TALLY, 2)
        self.assert_same([error_of(store, ("write", 2, 3)), error_of(store, ("write", 1, 3)),
                          error_of(store, ("merge", True, 0)), error_of(store, ("merge", 1, 0)),
                          error_of(store, ("settle", -1)), error_of(store, ("settle", 0)),
                          error_of(store, ("read_held", 0, 2)), error_of(store, ("write", [], {})),
                          error_of(store, ("merge", {}, [])), error_of(store, ("read_held", [], None))],
                         [(InvalidKey, 2), (InvalidOperand, 3), (InvalidKey, True), (NoMerge, 1, 0), (InvalidKey, -1),
                          (NoSettle, 0), (InvalidHold, 0), (InvalidKey, []), (InvalidKey, {}), (InvalidHold, [])])
        store.hold()
        self.assert_same([error_of(store, ("read_held", 0, 2)), error_of(store, ("read_held", 1, 2)),
                          error_of(store, ("read_held", False, 2)), error_of(store, ("let", False))],
                         [(InvalidKey, 2), (InvalidHold, 1), (InvalidHold, False), (InvalidHold, False)])

    def test_a_fourth_snapshot(self):
        store = self.made(TALLY, 2, [("hold",), ("hold",), ("hold",)])
        twin = self.made(TALLY, 2, [("hold",), ("hold",), ("hold",)])
        for _ in range(3):
            with self.assertRaises(TooManyHolds):
                store.hold()
            self.assertEqual(store, twin)
        self.assert_same([store.undo(), store.hold(), store.let(0), store.hold()], [("hold",), 2, None, 3])

    def test_numbers_that_were_let_go_or_taken_back(self):
        store = self.made(TALLY, 1, [("hold",), ("hold",), ("let", 0)])
        self.assert_same([error_of(store, call) for call in (("let", 0), ("read_held", 0, 0), ("let", 2))],
                         [(InvalidHold, 0), (InvalidHold, 0), (InvalidHold, 2)])
        store.undo()
        store.undo()
        self.assert_same([error_of(store, ("let", 1)), error_of(store, ("let", 0)), store.held()],
                         [(InvalidHold, 1), None, []])

    def test_arguments_stay_as_they_are(self):
        store = Store(TALLY, 1)
        for value in ([0], {0: [1]}, ([0],)):
            before = copy.deepcopy(value)
            for call in (("write", value, value), ("write", 0, value), ("merge", 0, value), ("let", value)):
                error_of(store, call)
            self.assert_same(value, before)


class Equality(StoreCase):
    def assert_equal(self, one, other):
        self.assert_same([one == other, other == one, one != other, other != one], [True, True, False, False])

    def assert_unlike(self, one, other):
        self.assert_same([one == other, other == one, one != other, other != one], [False, False, True, True])

    def test_stores_that_differ_in_one_thing_alone(self):
        three = [("write", 0, 1), ("hold",), ("write", 0, 0)]
        self.assert_unlike(Store(TALLY, 2), Store(BAD, 2))
        self.assert_unlike(Store(FULL, 1), Store(with_written(FULL, (0, 1)), 1))
        self.assert_unlike(self.made(TALLY, 2, three), self.made(BAD, 2, three))
        for keys, other in itertools.permutations(range(1, 5), 2):
            self.assert_unlike(Store(TALLY, keys), Store(TALLY, other))
        # A base and a cell, two orders of cells, the number of cells, the positions of a snapshot.
        for scheme, one, other in (
                (TALLY, [("write", 1, 0)], [("write", 1, 0), ("settle", 1)]),
                (TALLY, [("write", 1, 0), ("write", 1, 2), ("write", 1, 0)],
                 [("write", 1, 2), ("write", 1, 0), ("write", 1, 0)]),
                (TALLY, [("write", 1, 0), ("write", 1, 0)], [("write", 1, 0)]),
                (SWAP, [("write", 0, 0), ("hold",)], [("hold",), ("write", 0, 0)])):
            self.assert_unlike(self.made(scheme, 2, one), self.made(scheme, 2, other))

    def test_the_keys_are_told_apart(self):
        for one, other in itertools.permutations(range(4), 2):
            self.assert_unlike(self.made(TALLY, 4, [("write", one, 0)]), self.made(TALLY, 4, [("write", other, 0)]))

    def test_a_plain_state_alone(self):
        one = self.made(BAD, 2, [("write", 0, 1), ("write", 0, 1), ("merge", 0, 0)])
        other = self.made(BAD, 2, [("write", 0, 1)])
        self.assert_same([one.standing_of(0), one.plain(0), other.plain(0)], [other.standing_of(0), 1, 0])
        self.assert_unlike(one, other)
        one.write(0, 2)
        other.write(0, 2)
        self.assert_equal(one, other)

    def test_held_numbers_and_the_next_number_alone(self):
        one = self.made(TALLY, 1, [("hold",), ("hold",), ("let", 0)])
        other = self.made(TALLY, 1, [("hold",), ("hold",), ("let", 1)])
        self.assert_same([one.standing_of(0), one.held(), other.held()], [other.standing_of(0), [1], [0]])
        self.assert_unlike(one, other)
        one.let(1)
        other.let(0)
        self.assert_equal(one, other)
        self.assert_unlike(one, Store(TALLY, 1))
        self.assert_unlike(self.made(TALLY, 1, [("hold",)]), self.made(TALLY, 1, [("hold",), ("hold",), ("let", 1)]))

    def test_equal_ones_by_other_ways(self):
        plain = self.made(TALLY, 2, [("write", 0, 1), ("write", 1, 2)])
        self.assert_equal(plain, plain)
        self.assert_equal(plain, self.made(TALLY, 2, [("write", 1, 2), ("write", 0, 1)]))
        for calls in ([("compact", 0), ("write", 1, 2), ("write", 0, 1), ("compact", 1)],
                      [("write", 0, 1), ("hold",), ("undo",), ("write", 1, 2)],
                      [("write", 1, 2), ("write", 0, 1), ("settle", 0), ("undo",)]):
            self.assert_equal(plain, self.made(TALLY, 2, calls))
        self.assert_equal(self.made(TALLY, 1, [("write", 0, 1), ("write", 0, 0), ("merge", 0, 0)]),
                          self.made(TALLY, 1, [("write", 0, 0)]))
        self.assert_equal(self.made(TALLY, 1, [("write", 0, 0), ("settle", 0), ("undo",), ("undo",), ("undo",)]),
                          Store(copy.deepcopy(TALLY), 1))
        self.assert_equal(self.made(FULL, 1, [("write", 0, 1), ("write", 0, 1), ("compact", 0)]),
                          self.made(FULL, 1, [("write", 0, 0), ("write", 0, 1), ("merge", 0, 0)]))

    def test_values_of_other_kinds(self):
        class Anything:
            def __eq__(self, other):
                return True

        store = self.made(TALLY, 1, [("write", 0, 1)])
        for value in ODD_VALUES + [0, TALLY, Store, [store], (store,), object(), (TALLY, [(-1, (1,), ())], [0], [], 0)]:
            self.assert_unlike(store, value)
            self.assert_unlike(Store(TALLY, 1), value)
        self.assert_same([store == Anything(), store != Anything()], [False, True])

    def test_random_histories_taken_back(self):
        for seed in range(40):
            rng = random.Random(seed)
            scheme = rng.choice(SCHEMES)
            store, record = Store(scheme, 2), Record(scheme, 2)
            for _ in range(12):
                call = random_call(rng, record)
                call_on(store, call)
                record.make(call)
            twin = self.made(scheme, 2, [call for call, _ in record.log])
            self.assert_equal(store, twin)
            for _ in range(4):
                call = random_call(rng, record)
                call_on(store, call)
                store.undo()
                self.assert_equal(store, twin)


class LongStores(StoreCase):
    def test_many_cells(self):
        store = Store(with_rules(FULL, []), 2)
        for at in range(600):
            store.write(at % 2, at % 3)
        self.assert_same([len(store), store.compact(0), store.read(0), len(store.standing_of(1)[1])], [600, 0, 0, 300])
        store = Store(FULL, 1)
        for at in range(600):
            store.write(0, at % 3)
        self.assert_same([store.compact(0), len(store), store.undo(), len(store)], [599, 1, ("compact", 0), 600])


if __name__ == "__main__":
    unittest.main()
