"""What the document guarantees over the whole program: books or wrong histories, ranks or rings, for all stores."""

import random
import unittest

from records import Record, call_on, random_call
from samples import (DOCUMENTED, DOUBLINGS, LOOSE, ROUNDS, StrictCase, mostly_right_scheme, random_schemes)
from searches import own_has_book
from stackedputs.books import find_book, find_wrong, is_book, is_wrong
from stackedputs.prices import fewest_steps, find_prices, is_price
from stackedputs.readers import (are_read_ranks, find_dear, find_dear_ring, find_read_ranks, greatest_price,
                                 is_dear_ring, price_of)
from stackedputs.snapshots import most_cells
from stackedputs.stacks import are_ranks, find_ranks, find_ring, is_ring, is_stack, long_row, longest_row
from stackedputs.storelogs import history_of, is_store_log, store_log
from stackedputs.stores import Store


def many_schemes(seed):
    rng = random.Random(seed)
    right = [mostly_right_scheme(rng, 0) for _ in range(60)]
    return DOCUMENTED + [DOUBLINGS, ROUNDS] + right + random_schemes(seed, 120)


def random_store(rng, scheme, keys, many):
    """A store on which as many calls were made, and its record."""
    store, record = Store(scheme, keys), Record(scheme, keys)
    for _ in range(many):
        call = random_call(rng, record)
        call_on(store, call)
        record.make(call)
    return store, record


class BooksOrWrongHistories(StrictCase):
    def test_just_one_of_both_exists_and_can_be_checked(self):
        found = []
        for scheme in many_schemes(200):
            book, history, prices = find_book(scheme), find_wrong(scheme), find_prices(scheme)
            found.append(book is None)
            self.assertIs(book is None, not own_has_book(scheme))
            self.assertIs(history is None, book is not None)
            many = 1000 if history is None else len(history)
            self.assertIs(is_price(scheme, many, prices), True)
            self.assert_same(fewest_steps(scheme), None if history is None else many)
            self.assertIs(is_wrong(scheme, history) if book is None else is_book(scheme, book), True)
        self.assertEqual(set(found), {True, False})

    def test_with_a_book_every_read_of_every_store_is_plain(self):
        rng = random.Random(201)
        for at, scheme in enumerate(many_schemes(201)):
            if find_book(scheme) is None:
                continue
            keys = at % 4 + 1
            store, record = Store(scheme, keys), Record(scheme, keys)
            for _ in range(30):
                call = random_call(rng, record)
                call_on(store, call)
                record.make(call)
                self.assert_same([store.read(key) for key in range(keys)], record.plains)
                self.assert_same([store.plain(key) for key in range(keys)], record.plains)
                for number in store.held():
                    self.assert_same([store.read_held(number, key) for key in range(keys)], record.seen[number])

    def test_a_wrong_history_makes_a_wrong_read_at_each_key_of_a_store(self):
        for scheme in many_schemes(202):
            history = find_wrong(scheme)
            if history is None:
                continue
            for keys, key in ((1, 0), (2, 1), (4, 2)):
                store = Store(scheme, keys)
                for step in history:
                    self.assert_same(store.read(key), store.plain(key))
                    call_on(store, (step[0], key, *step[1:]) if step[0] in ("write", "merge", "settle") else step)
                held = [store.read_held(number, key) for number in store.held()]
                self.assertTrue(store.read(key) != store.plain(key) or held)
                self.assert_same(history_of(scheme, keys, store_log(store), key), history)

    def test_histories_of_logs_are_wrong_or_not_as_the_reads_of_the_store(self):
        rng, found = random.Random(203), []
        for scheme in random_schemes(203, 200):
            store, record = random_store(rng, scheme, 2, 12)
            self.assertIs(is_store_log(scheme, 2, store_log(store)), True)
            for key in range(2):
                history = history_of(scheme, 2, store_log(store), key)
                beginnings = [history[:many] for many in range(len(history) + 1)]
                wrong = [many for many, beginning in enumerate(beginnings) if is_wrong(scheme, beginning)]
                found.append(len(wrong))
                self.assertLessEqual(len(wrong), 1)
                if not wrong:
                    self.assert_same(store.read(key), store.plain(key))
                    self.assert_same(store.plain(key), record.plains[key])
                else:
                    self.assertIsNone(find_book(scheme))
                    self.assertGreaterEqual(wrong[0], fewest_steps(scheme))
        self.assertEqual(set(found), {0, 1})


class RanksOrRings(StrictCase):
    def test_just_one_of_both_exists_and_can_be_checked(self):
        for scheme in many_schemes(204):
            ranks, ring = find_ranks(scheme), find_ring(scheme)
            self.assertIs(ranks is None, ring is not None)
            if ring is None:
                self.assertIs(are_ranks(scheme, ranks), True)
                self.assertEqual(len(longest_row(scheme)), max(ranks.values()))
                self.assert_same([most_cells(scheme, h) for h in range(4)],
                                 [max(ranks.values()) * times for times in (1, 2, 3, 4)])
            else:
                self.assertIs(is_ring(scheme, ring), True)
                self.assertIs(is_stack(scheme, long_row(scheme, 60)), True)
                self.assert_same([most_cells(scheme, h) for h in range(4)], [None] * 4)
            price, read_ranks, dear = greatest_price(scheme), find_read_ranks(scheme), find_dear_ring(scheme)
            self.assertEqual([read_ranks is None, dear is not None], [price is None] * 2)
            if price is None:
                self.assertIs(is_dear_ring(scheme, dear), True)
                self.assertIsNone(ranks)
            else:
                self.assertIs(are_read_ranks(scheme, read_ranks), True)
                self.assert_same([price_of(scheme, find_dear(scheme)), max(read_ranks.values())], [price, price])

    def test_no_more_cells_than_the_ranks_allow_are_left_by_compaction(self):
        rng, found = random.Random(205), 0
        for scheme in many_schemes(205):
            if find_ranks(scheme) is None:
                continue
            found += 1
            store, _ = random_store(rng, scheme, 3, 25)
            for key in range(3):
                store.compact(key)
                self.assertLessEqual(len(store.standing_of(key)[1]), most_cells(scheme, len(store.held())))
            for number in store.held():
                store.let(number)
            for key in range(3):
                store.compact(key)
                cells = store.standing_of(key)[1]
                self.assertIs(is_stack(scheme, cells), True)
                self.assertLessEqual(len(cells), max(find_ranks(scheme).values()))
                self.assertLessEqual(price_of(scheme, cells), greatest_price(scheme))
        self.assertGreater(found, 20)

    def test_with_a_ring_compaction_can_leave_any_number_of_cells(self):
        store = Store(LOOSE, 1)
        for at in range(200):
            store.write(0, (0, 2)[at % 2])
        self.assert_same([find_ranks(LOOSE), store.compact(0), len(store)], [None, 0, 200])


if __name__ == "__main__":
    unittest.main()
