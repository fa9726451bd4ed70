"""What the document says of all functions: arguments stay, results are new, equal ones for equal arguments."""

import copy
import importlib
import unittest

from samples import BAD, FULL, LOOSE, ODD_VALUES, OPEN, TALLY, StrictCase, is_same
from stackedputs.choices import find_choice_book
from stackedputs.stores import Store
from test_interface import INTERFACE

PART = FULL[:3] + (FULL[3][:1] + FULL[3][2:5] + FULL[3][6:9] + FULL[3][10:],)
ODD = TALLY[:3] + (((0, 1, 2), (1, 1, 1)),)
OFFER = {(1, 1, 1): 3, (1, 1, 3): 3, (0, 1, 0): 3, (2, 1, 0): 4, (0, 1, 3): 9}
STANDING = (-1, (1, 0, 1), (1, 3))
LOG = [(("write", 1, 1), (-1, 0)), (("hold",), (-1, 0)), (("compact", 1), (-1, 0)), (("let", 0), (-1, 0))]
SCHEMES = [TALLY, BAD, FULL, OPEN, LOOSE, PART, ODD]

# For each function the further arguments, or all of them where the first one is no scheme, that it is asked with.
FURTHER = {
    "effect": [(1, 0)], "rule_for": [(1, 2)], "row_effect": [((1, 1),)], "state_after": [(0, (1, 2))],
    "way_to": [(1,), (-1,)], "is_way": [(1, (0, 1)), (1, [0])], "is_standing": [(STANDING,), ([STANDING],)],
    "steps": [(STANDING,)], "after": [(STANDING, ("hold",)), (STANDING, ("write", 1))], "read_now": [(STANDING,)],
    "read_held": [(STANDING, 1)], "find_making": [(0,), (2,)], "is_making": [(0, (0, 2, 1)), (0, [0])],
    "are_lengths": [({0: 1, 1: 1, 2: 1},), ({0: [1]},)], "is_book": [(((-1, 0, 1), (0, 1, 2)),), ([[0], [1]],)],
    "is_wrong": [((("write", 1), ("write", 1), ("merge", 0)),), ([("write", 1)],)],
    "is_price": [(3, ({-1: 0, 0: 1}, {(0, -1): 1})), (3, [{0: [1]}, {}])], "long_row": [(0,), (1,), (7,)],
    "is_stack": [((0, 1, 1),), ([0],)], "is_ring": [((1,),), ([1],)], "are_ranks": [({0: 1, 1: 2, 2: 2},), ({0: [1]},)],
    "places": [((0, 1, 1, 2),)], "merged": [((0, 1, 2), 1)], "ends_of": [((0, 1, 1, 2),)],
    "fewest_left": [((0, 1, 1),)], "most_left": [((0, 1, 1),)], "find_merges": [((0, 1, 1), (0,)), ((2, 2), (2,))],
    "are_merges": [((0, 1, 1), (0,), (1,)), ((0, 1, 1), (0,), [1])], "are_joins": [({(0, 1, 1): (0,)},), ({0: [1]},)],
    "is_parting": [(((0, 1, 1), (2,), (2, 1)),), ([0, [1]],)], "with_rules": [(((2, 1, 0),),)],
    "is_good": [(2, ()), (1, ())], "find_choice": [(2, OFFER, 9), (2, OFFER, 3)],
    "find_choice_book": [(2, OFFER, 9), (1, OFFER, 6)], "least_cost": [(2, OFFER)],
    "is_choice_book": [(1, OFFER, 6, ("row", (1, 1), {(1, 1, 1): ["wrong"]})), (1, OFFER, 6, [[], {}])],
    "turn_of": [((1, 2),)], "row_for": [((1, 1, 1),), ((0, 0, 0),)], "is_least": [(FULL,), ([FULL, [0]],)],
    "end_of": [((1, 2, 1, 1),)], "barred": [(STANDING,)], "fewest_cells": [(STANDING,)],
    "most_cells": [(0,), (3,)], "fewest_lets": [(STANDING, 1), (STANDING, 2)], "price_of": [((0, 1, 1),)],
    "first_store_fault": [(2, LOG), (2, [[("hold",)], {}])], "is_store_log": [(2, LOG), (2, {0: [LOG]})],
    "history_of": [(2, LOG, 1)], "are_read_ranks": [({0: 1, 1: 2, 2: 2},), ({0: [1]},)],
    "is_dear_ring": [((1,),), ([1],)],
}
WHOLE = {
    "row_of": [((0, (3, 1, 1), 0),)], "steps_of": [((0, (3, 1, 1), 0),)], "stretches": [(STANDING,)],
    "is_scheme": [(TALLY,), ([2, [0]],)], "same_in_the_end": [(FULL, OPEN), (FULL, FULL)],
    "find_table": [(FULL, OPEN), (OPEN, OPEN)], "find_parting_row": [(FULL, OPEN)],
    "is_table": [(FULL, FULL, (((), ()),)), (FULL, FULL, [[]])],
    "is_parting_row": [(FULL, OPEN, (2, 1)), (FULL, OPEN, [2, 1])], "read_scheme": [("values 1\n0 written: 0 -",)],
    "store_log": [],
}
# Those that may be asked only of some of the schemes.
SCHEMES_FOR = {"end_of": [TALLY, FULL, OPEN], "with_rules": [TALLY, OPEN, PART], "history_of": [TALLY]}
SCHEMES_FOR |= dict.fromkeys(["find_choice", "find_choice_book", "least_cost", "is_choice_book"], [PART])


def all_calls():
    """(name, function, arguments) for each function of the interface, at least once each."""
    for file, names in INTERFACE.items():
        module = importlib.import_module("stackedputs." + file)
        for name in names:
            if name in WHOLE:
                calls = WHOLE[name]
            else:
                schemes = SCHEMES_FOR.get(name, SCHEMES)
                calls = [(scheme, *rest) for scheme in schemes for rest in FURTHER.get(name, [()])]
            for arguments in calls:
                yield name, getattr(module, name), arguments


def containers(value):
    """All lists and dicts in the value, each as often as it stands there."""
    if isinstance(value, dict):
        return [value] + [item for pair in value.items() for part in pair for item in containers(part)]
    if isinstance(value, (list, tuple)):
        own = [value] if isinstance(value, list) else []
        return own + [item for part in value for item in containers(part)]
    return []


class AllFunctions(StrictCase):
    def test_each_is_asked(self):
        names = {name for names in INTERFACE.values() for name in names}
        self.assertEqual({name for name, _, _ in all_calls()} | {"store_log"}, names)

    def test_arguments_stay_and_equal_ones_have_equal_results(self):
        for name, function, arguments in all_calls():
            twin = copy.deepcopy(arguments)
            first = function(*arguments)
            self.assertTrue(is_same(arguments, twin), name)
            self.assertTrue(is_same(function(*twin), first), name)
            self.assertTrue(is_same(twin, arguments), name)

    def test_results_are_new_and_belong_to_the_caller(self):
        seen = set()
        for name, function, arguments in all_calls():
            given = {id(item) for item in containers(arguments)}
            first = function(*arguments)
            wanted = copy.deepcopy(first)
            found = containers(first)
            seen |= {name} if found else set()
            self.assertEqual(len({id(item) for item in found}), len(found), name)
            self.assertFalse({id(item) for item in found} & given, name)
            for item in found:
                item.clear()
            self.assertTrue(is_same(function(*arguments), wanted), name)
        self.assertTrue({"reached", "ways", "steps", "find_prices", "open_pairs", "find_ranks", "ends_of", "find_joins",
                         "find_choice_book", "turns", "alike_groups", "barred", "final_operands",
                         "find_read_ranks"} <= seen)

    def test_values_of_any_kind_are_not_changed(self):
        for name, function, arguments in all_calls():
            if name.startswith(("is_", "are_")) and name != "is_good":
                for value in ODD_VALUES[:-3]:
                    before = copy.deepcopy(value)
                    self.assertIs(type(function(*arguments[:-1], value)), bool, name)
                    self.assertTrue(is_same(value, before), name)

    def test_the_order_of_keys_means_nothing(self):
        def turned(value):
            if isinstance(value, dict):
                return {key: turned(value[key]) for key in reversed(list(value))}
            return tuple(turned(item) for item in value) if isinstance(value, tuple) else value

        for name, function, arguments in all_calls():
            self.assertTrue(is_same(function(*turned(arguments)), function(*arguments)), name)
        book = find_choice_book(PART, 1, OFFER, 6)
        self.assertGreater(len(containers(book)), 1)
        is_choice_book = importlib.import_module("stackedputs.choices").is_choice_book
        self.assertIs(is_choice_book(PART, 1, turned(OFFER), 6, turned(book)), True)


class Objects(StrictCase):
    def test_stores_keep_nothing_that_the_caller_changes(self):
        store, twin = Store(TALLY, 2), Store(TALLY, 2)
        for one in (store, twin):
            one.write(0, 1)
            one.hold()
        for told in (store.held(), [store.standing_of(0)], store.log()):
            told.clear()
        self.assertEqual(store, twin)
        self.assert_same([store.held(), store.log(), store.undo()], [[0], twin.log(), ("hold",)])


if __name__ == "__main__":
    unittest.main()
