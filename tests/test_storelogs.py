import copy
import itertools
import random
import unittest

from records import NO_NUMBERS, Record, call_on, error_of, random_call, random_log, random_odd_call
from samples import (BAD, DOCUMENTED, FULL, LOOSE, ODD_VALUES, OPEN, SWAP, TALLY, StrictCase, as_bool, as_list, as_odd,
                     is_same, random_schemes, replaced, with_written)
from searches import own_after, own_steps
from stackedputs.storelogs import first_store_fault, history_of, is_store_log, store_log
from stackedputs.stores import Store

SEVERAL = (1, ((0, 0),) * 3, (0, 1), ((0, 1, -1), (1, 0, 2), (1, 2, 1), (2, 1, 0)))
SCHEMES = DOCUMENTED + [SEVERAL, with_written(FULL, (1, 2))]
WORDS = {"write": 3, "merge": 3, "settle": 2, "compact": 2, "hold": 1, "let": 2}
# All kinds of calls on two keys, with a compaction of none, of one and of several merges.
CALLS = [("write", 0, 1), ("hold",), ("write", 0, 0), ("write", 1, 1), ("compact", 0), ("hold",), ("write", 0, 2),
         ("write", 0, 0), ("let", 0), ("compact", 0), ("write", 1, 2), ("let", 1), ("merge", 1, 0), ("settle", 0),
         ("settle", 1), ("write", 0, 1), ("write", 0, 0), ("write", 0, 2), ("compact", 0), ("hold",)]
# All numbers in it are 0, which is equal to False, and so are the reads behind the write.
FEW = [("write", 0, 0), ("hold",), ("let", 0), ("settle", 0)]


def log_of(scheme, keys, calls):
    """The log of these calls, each of which raises nothing."""
    record = Record(scheme, keys)
    for call in calls:
        record.make(call)
    return record.log


def own_is_call(value):
    return (type(value) is tuple and len(value) > 0 and type(value[0]) is str and WORDS.get(value[0]) == len(value))


def own_first_fault(scheme, keys, value):
    record = Record(scheme, keys)
    for at, entry in enumerate(value):
        if type(entry) is not tuple or len(entry) != 2 or not own_is_call(entry[0]):
            return at
        if record.wanted_error(entry[0]) is not None:
            return at
        record.make(entry[0])
        if not is_same(entry[1], tuple(record.reads())):
            return at
    return None


def random_logs(seed, many):
    """(scheme, keys, log), some of whose calls were taken back, so that they are not in it."""
    rng = random.Random(seed)
    found = []
    for at, scheme in enumerate(SCHEMES + random_schemes(seed, many)):
        keys = at % 4 + 1
        found.append((scheme, keys, random_log(rng.random(), scheme, keys, rng.randint(0, 14)).log))
    return found


class LogCase(StrictCase):
    def assert_fault(self, scheme, keys, value, wanted):
        self.assert_same(first_store_fault(scheme, keys, value), wanted)
        self.assertIs(is_store_log(scheme, keys, value), wanted is None)

    def assert_as_own(self, scheme, keys, value):
        """Returns the number of the first fault, or None."""
        wanted = own_first_fault(scheme, keys, value)
        self.assertIs(type(wanted), type(first_store_fault(scheme, keys, value)), repr(value)[:300])
        self.assert_fault(scheme, keys, value, wanted)
        return wanted


class Examples(LogCase):
    def test_of_the_document(self):
        store = Store(TALLY, 2)
        self.assert_same(
            [store.write(1, 1), store.hold(), store.write(1, 0), store.let(0), store.compact(1), store_log(store)[-1],
             history_of(TALLY, 2, store_log(store), 1)],
            [None, 0, None, None, 1, (('compact', 1), (-1, 0)),
             (('write', 1), ('hold',), ('write', 0), ('let', 0), ('merge', 0))])


class StoreLog(LogCase):
    def test_has_just_the_calls_that_were_not_taken_back(self):
        rng = random.Random(150)
        for at, scheme in enumerate(SCHEMES + random_schemes(150, 60)):
            keys = at % 4 + 1
            store, record = Store(scheme, keys), Record(scheme, keys)
            self.assert_same(store_log(store), [])
            for _ in range(20):
                call = random_odd_call(rng) if rng.random() < 0.2 else random_call(rng, record)
                if record.wanted_error(call) is None:
                    call_on(store, call)
                    record.make(call)
                else:
                    self.assertIsNotNone(error_of(store, call))
                if rng.random() < 0.3:
                    self.assert_same(store.undo(), record.undo())
                self.assert_same(store_log(store), record.log)
            while record.log:
                store.undo()
                record.undo()
                self.assert_same(store_log(store), record.log)
            self.assert_same([store.undo(), store_log(store)], [None, []])

    def test_all_kinds_of_calls(self):
        store = Store(TALLY, 2)
        for call in CALLS:
            call_on(store, call)
        self.assert_same(store_log(store), log_of(TALLY, 2, CALLS))
        self.assert_same([call for call, _ in store_log(store)], CALLS)
        self.assert_same(store_log(store)[3:6],
                         [(("write", 1, 1), (0, 0)), (("compact", 0), (0, 0)), (("hold",), (0, 0))])

    def test_calls_that_were_refused_or_only_asked_are_not_in_it(self):
        store = Store(TALLY, 1)
        store.write(0, 1)
        for call in (("write", 0, 3), ("merge", 0, 0), ("let", 0), ("settle", 1), ("read", 0), ("held",), ("plain", 0)):
            error_of(store, call)
        self.assert_same(store_log(store), [(("write", 0, 1), (0,))])

    def test_reads_are_those_of_now_though_they_be_wrong(self):
        store = Store(BAD, 2)
        for call in (("write", 1, 1), ("write", 1, 1), ("merge", 1, 0), ("settle", 1)):
            call_on(store, call)
        self.assert_same(store_log(store), [(("write", 1, 1), (-1, 0)), (("write", 1, 1), (-1, 1)),
                                            (("merge", 1, 0), (-1, 0)), (("settle", 1), (-1, 0))])
        self.assert_fault(BAD, 2, store_log(store), None)

    def test_told_lists_are_new(self):
        store = Store(TALLY, 2)
        for call in CALLS:
            call_on(store, call)
        told, wanted = store_log(store), log_of(TALLY, 2, CALLS)
        told[0] = None
        told.pop()
        told.append(7)
        self.assert_same([store_log(store), history_of(TALLY, 2, store_log(store), 0)],
                         [wanted, history_of(TALLY, 2, wanted, 0)])
        told.clear()
        self.assert_same([store.undo(), store_log(store)], [("hold",), wanted[:-1]])
        before = store_log(store)
        store.write(0, 1)
        self.assert_same(before, wanted[:-1])

    def test_stores_with_one_log_are_equal(self):
        for scheme, keys, log in random_logs(151, 60):
            store = Store(scheme, keys)
            for call, _ in log:
                call_on(store, call)
            self.assert_same(store_log(store), log)


class FirstStoreFault(LogCase):
    def test_right_logs(self):
        for scheme, keys, log in random_logs(152, 150):
            for many in range(len(log) + 1):
                self.assert_fault(scheme, keys, log[:many], None)
        self.assert_fault(TALLY, 2, log_of(TALLY, 2, CALLS), None)
        self.assert_fault(TALLY, 1, [], None)

    def test_entries_left_out_twice_and_exchanged(self):
        faults = []
        for scheme, keys, log in random_logs(153, 60) + [(TALLY, 2, log_of(TALLY, 2, CALLS))]:
            for at in range(len(log)):
                faults.append(self.assert_as_own(scheme, keys, log[:at] + log[at + 1:]))
                faults.append(self.assert_as_own(scheme, keys, log[:at + 1] + log[at:]))
            for one, other in itertools.combinations(range(len(log)), 2):
                value = list(log)
                value[one], value[other] = log[other], log[one]
                faults.append(self.assert_as_own(scheme, keys, value))
            self.assert_as_own(scheme, keys, log[::-1])
        self.assertTrue({None, 0, 1, 2, 5, 9} <= set(faults))

    def test_entries_put_in(self):
        rng = random.Random(154)
        for scheme, keys, log in random_logs(154, 40):
            other = random_log(rng.random(), scheme, keys, 6).log
            for at in range(len(log) + 1):
                for entry in other:
                    self.assert_as_own(scheme, keys, log[:at] + [entry] + log[at:])

    def test_reads_of_another_entry(self):
        faults = []
        for scheme, keys, log in random_logs(155, 80) + [(TALLY, 2, log_of(TALLY, 2, CALLS))]:
            for at, (call, reads) in enumerate(log):
                for _, other in log:
                    wanted = None if other == reads else at
                    self.assert_fault(scheme, keys, log[:at] + [(call, other)] + log[at + 1:], wanted)
                    faults.append(wanted)
        self.assertGreater(len([at for at in faults if at is not None]), 200)

    def test_reads_that_are_changed(self):
        for scheme, keys, log in random_logs(156, 40):
            for at, (call, reads) in enumerate(log):
                states = range(-2, scheme[0] + 1)
                values = [reads[:k] + (state,) + reads[k + 1:] for k in range(keys) for state in states]
                values += [reads[1:], reads[:-1], reads + reads[:1], reads + (-1,), (), reads * 2, list(reads),
                           reads[0], None, (reads,), dict(enumerate(reads)), reads + (None,)]
                for value in values:
                    wanted = None if is_same(value, reads) else at
                    self.assert_fault(scheme, keys, log[:at] + [(call, value)] + log[at + 1:], wanted)

    def test_calls_that_are_changed(self):
        found = []
        for scheme, keys, log in random_logs(157, 20) + [(TALLY, 2, log_of(TALLY, 2, CALLS))]:
            for at, (call, reads) in enumerate(log):
                changed = [call[:k] + (item,) + call[k + 1:] for k in range(1, len(call)) for item in range(-1, 5)]
                changed += [(word,) + call[1:] for word in WORDS]
                changed += [(word, *rest) for word, many in WORDS.items()
                            for rest in itertools.product((0, 1, 2), repeat=many - 1)]
                for value in changed:
                    found.append(self.assert_as_own(scheme, keys, log[:at] + [(value, reads)] + log[at + 1:]))
        self.assertGreater(len([at for at in found if at is not None]), 500)

    def test_calls_that_may_not_be_made_at_their_moment(self):
        for calls, wrong in (([("write", 0, 1)], ("merge", 0, 0)), ([], ("settle", 0)), ([], ("let", 0)),
                             ([("hold",)], ("let", 1)), ([("hold",)] * 3, ("hold",)),
                             ([("hold",), ("let", 0)], ("let", 0)), ([("hold",), ("write", 0, 1)], ("settle", 0)),
                             ([], ("write", 0, 3)), ([], ("write", 2, 0)), ([], ("compact", 2)), ([], ("compact", -1)),
                             ([("write", 0, 0), ("hold",), ("write", 0, 0)], ("merge", 0, 0)),
                             ([("write", 1, 0)], ("settle", 0)), ([], ("write", 0, -1))):
            log = log_of(TALLY, 2, calls)
            reads = log[-1][1] if log else (-1, -1)
            self.assert_fault(TALLY, 2, log, None)
            self.assert_fault(TALLY, 2, log + [(wrong, reads)], len(log))
            self.assert_fault(TALLY, 2, log + [(wrong, reads), (("write", 0, 0), (0, reads[1]))], len(log))

    def test_calls_of_other_kinds_and_lengths(self):
        for call in (("read", 0), ("undo",), ("plain", 0), ("held",), ("standing_of", 0), ("read_held", 0, 0), ("log",),
                     ("__init__", TALLY, 2), ("Write", 0, 0), ("write ", 0, 0), ("", 0, 0), ("hold", 0), ("hold", None),
                     ("write", 0), ("write",), ("write", 0, 0, 0), ("merge", 0), ("settle",), ("settle", 0, 0),
                     ("let",), ("compact",), ("compact", 0, 0), ("let", 0, 0), (), (0,), (None,), (("hold",),),
                     ("h", "o"), "hold", ["hold"], ["write", 0, 0], None, 0, {}, {"hold": 0}, (["write"], 0, 0),
                     ({}, 0, 0), ((), 0, 0)):
            self.assert_fault(TALLY, 2, [(call, (-1, -1))], 0)
            self.assert_fault(TALLY, 2, [(call, (0, -1))], 0)
        self.assert_fault(TALLY, 2, [(("write", 0, 0), (0, -1)), (("hold",), (0, -1)), (("let", 0), (0, -1)),
                                     (("compact", 1), (0, -1))], None)

    def test_odd_keys_operands_and_numbers(self):
        log = log_of(TALLY, 2, CALLS)
        for value in NO_NUMBERS + ODD_VALUES:
            for call in (("write", value, 0), ("write", 0, value), ("merge", value, 0), ("merge", 0, value),
                         ("settle", value), ("compact", value), ("let", value)):
                self.assert_fault(TALLY, 2, log + [(call, log[-1][1])], len(log))

    def test_bools_and_lists(self):
        for scheme, keys, calls in ((TALLY, 2, CALLS), (SWAP, 1, FEW),
                                    (TALLY, 2, [("write", 1, 1), ("write", 1, 1), ("hold",), ("settle", 1)])):
            log = log_of(scheme, keys, calls)
            for at, entry in enumerate(log):
                for value in replaced(entry, as_bool) + replaced(entry, as_list):
                    self.assert_fault(scheme, keys, log[:at] + [value] + log[at + 1:], at)

    def test_odd_values_in_each_place(self):
        for scheme, keys, calls in ((SWAP, 1, FEW), (TALLY, 2, [
                ("write", 1, 1), ("write", 1, 0), ("merge", 1, 0), ("compact", 0)])):
            log = log_of(scheme, keys, calls)
            for at, entry in enumerate(log):
                for value in replaced(entry, as_odd):
                    self.assert_fault(scheme, keys, log[:at] + [value] + log[at + 1:], at)

    def test_entries_of_other_kinds(self):
        log = log_of(TALLY, 2, CALLS)
        call, reads = log[0]
        for value in ODD_VALUES + [call, reads, (call,), (reads, call), (call, reads, ()), [call, reads],
                                   ((call, reads),), {call: reads}, (), call + reads]:
            self.assert_fault(TALLY, 2, [value] + log[1:], 0)
            self.assert_fault(TALLY, 2, log[:4] + [value] + log[4:], 4)
            self.assert_fault(TALLY, 2, log + [value], len(log))

    def test_other_schemes_and_numbers_of_keys(self):
        faults = []
        for scheme, keys, log in random_logs(158, 60):
            for other in SCHEMES[:7]:
                for number in range(1, 5):
                    faults.append(self.assert_as_own(other, number, log))
        self.assertTrue({None, 0, 1, 2, 3} <= set(faults))

    def test_the_value_stays_as_it_is(self):
        for value in (log_of(TALLY, 2, CALLS), [[("hold",), (-1, -1)]], [(["hold"], [-1])], [{"a": [1]}]):
            before = copy.deepcopy(value)
            first_store_fault(TALLY, 2, value), is_store_log(TALLY, 2, value)
            self.assert_same(value, before)


class IsStoreLog(LogCase):
    def test_other_values(self):
        for value in ODD_VALUES + [0, 1, (), "log", (("hold",), (-1,)), {0: (("hold",), (-1,))}]:
            self.assertIs(is_store_log(TALLY, 1, value), value == [], repr(value)[:100])

    def test_tuples_and_dicts_of_right_entries(self):
        log = log_of(TALLY, 2, CALLS)
        values = (log, tuple(log), dict(enumerate(log)), [log], (log,))
        self.assert_same([is_store_log(TALLY, 2, value) for value in values], [True, False, False, False, False])
        self.assert_same([is_store_log(TALLY, 2, value) for value in ((), {}, None, "")], [False] * 4)


class HistoryOf(LogCase):
    def test_against_the_record(self):
        rng = random.Random(159)
        for at, scheme in enumerate(SCHEMES + random_schemes(159, 120)):
            keys = at % 4 + 1
            record = random_log(rng.random(), scheme, keys, 25)
            for key in range(keys):
                told = history_of(scheme, keys, record.log, key)
                self.assert_same(told, tuple(record.histories[key]))
                self.assert_history(scheme, told, record.standings[key])

    def assert_history(self, scheme, history, standing):
        """Each step of it is one of the standing before it, and the last one leads to this standing."""
        now = (-1, (), ())
        for step in history:
            self.assertIn(step, own_steps(scheme, now))
            now = own_after(scheme, now, step)
        self.assert_same(now, standing)

    def test_of_each_key_told_one_by_one(self):
        log = log_of(TALLY, 2, CALLS)
        self.assert_same(history_of(TALLY, 2, log, 0), (
            ("write", 1), ("hold",), ("write", 0), ("hold",), ("write", 2), ("write", 0), ("let", 0), ("merge", 0),
            ("merge", 1), ("let", 0), ("settle",), ("write", 1), ("write", 0), ("write", 2), ("merge", 1), ("merge", 0),
            ("merge", 0), ("hold",)))
        self.assert_same(history_of(TALLY, 2, log, 1), (
            ("hold",), ("write", 1), ("hold",), ("let", 0), ("write", 2), ("let", 0), ("merge", 0), ("settle",),
            ("hold",)))

    def test_snapshots_that_are_let_go_have_the_index_of_that_moment(self):
        calls = [("hold",)] * 3 + [("let", 1), ("hold",), ("let", 0), ("let", 3), ("let", 2), ("hold",), ("let", 4)]
        wanted = (("hold",),) * 3 + (("let", 1), ("hold",), ("let", 0), ("let", 1), ("let", 0), ("hold",), ("let", 0))
        for key in range(3):
            self.assert_same(history_of(OPEN, 3, log_of(OPEN, 3, calls), key), wanted)

    def test_compactions_with_rules_into_nothing_and_without_merges(self):
        calls = [("compact", 0), ("write", 0, 1), ("write", 0, 1), ("write", 0, 1), ("compact", 1), ("compact", 0),
                 ("compact", 0), ("write", 0, 1), ("compact", 0)]
        self.assert_same([history_of(LOOSE, 2, log_of(LOOSE, 2, calls), key) for key in range(2)],
                         [(("write", 1),) * 3 + (("merge", 0), ("write", 1), ("merge", 0)), ()])
        calls = [("write", 1, operand) for operand in (1, 0, 1, 1)] + [("compact", 1)]
        self.assert_same(history_of(SEVERAL, 2, log_of(SEVERAL, 2, calls), 1),
                         tuple(("write", operand) for operand in (1, 0, 1, 1)) + (("merge", 0),) * 3)

    def test_an_empty_log(self):
        self.assert_same([history_of(TALLY, 4, [], key) for key in range(4)], [()] * 4)

    def test_arguments_stay(self):
        log = log_of(TALLY, 2, CALLS)
        before = copy.deepcopy(log)
        history_of(TALLY, 2, log, 0)
        self.assert_same(log, before)


if __name__ == "__main__":
    unittest.main()
