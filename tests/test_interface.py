import importlib
import inspect
import unittest

from stackedputs.stores import Store

INTERFACE = {
    "schemes": {"is_scheme": ["value"], "effect": ["scheme", "operand", "state"], "rule_for": ["scheme", "a", "b"],
                "row_effect": ["scheme", "row"]},
    "reach": {"state_after": ["scheme", "state", "row"], "reached": ["scheme"], "ways": ["scheme"],
              "way_to": ["scheme", "state"], "is_way": ["scheme", "state", "value"]},
    "standings": {"beginning": ["scheme"], "is_standing": ["scheme", "value"], "steps": ["scheme", "standing"],
                  "after": ["scheme", "standing", "step"], "read_now": ["scheme", "standing"],
                  "read_held": ["scheme", "standing", "i"]},
    "makings": {"made": ["scheme"], "row_of": ["making"], "steps_of": ["making"], "find_making": ["scheme", "k"],
                "making_lengths": ["scheme"], "is_making": ["scheme", "k", "value"],
                "are_lengths": ["scheme", "value"]},
    "books": {"find_book": ["scheme"], "find_wrong": ["scheme"], "is_book": ["scheme", "value"],
              "is_wrong": ["scheme", "value"]},
    "prices": {"find_prices": ["scheme"], "is_price": ["scheme", "n", "value"], "fewest_steps": ["scheme"]},
    "stacks": {"open_pairs": ["scheme"], "longest_row": ["scheme"], "find_ranks": ["scheme"], "find_ring": ["scheme"],
               "long_row": ["scheme", "n"], "is_stack": ["scheme", "value"], "is_ring": ["scheme", "value"],
               "are_ranks": ["scheme", "value"]},
    "ends": {"places": ["scheme", "row"], "merged": ["scheme", "row", "p"], "ends_of": ["scheme", "row"],
             "fewest_left": ["scheme", "row"], "most_left": ["scheme", "row"], "find_merges": ["scheme", "row", "end"],
             "are_merges": ["scheme", "row", "end", "value"]},
    "overlaps": {"overlaps": ["scheme"], "end_alike": ["scheme"], "find_joins": ["scheme"],
                 "find_parting": ["scheme"], "are_joins": ["scheme", "value"], "is_parting": ["scheme", "value"]},
    "choices": {"with_rules": ["scheme", "choice"], "is_good": ["scheme", "s", "choice"],
                "find_choice": ["scheme", "s", "offer", "d"], "find_choice_book": ["scheme", "s", "offer", "d"],
                "least_cost": ["scheme", "s", "offer"], "is_choice_book": ["scheme", "s", "offer", "d", "value"]},
    "turns": {"turn_of": ["scheme", "row"], "turns": ["scheme"], "row_for": ["scheme", "turn"],
              "least_count": ["scheme"], "least_scheme": ["scheme"], "is_least": ["scheme", "value"]},
    "alike": {"alike_groups": ["scheme"], "taken_down": ["scheme"], "end_of": ["scheme", "row"],
              "same_in_the_end": ["one", "other"], "find_table": ["one", "other"],
              "find_parting_row": ["one", "other"], "is_table": ["one", "other", "value"],
              "is_parting_row": ["one", "other", "value"]},
    "snapshots": {"stretches": ["standing"], "barred": ["scheme", "standing"], "fewest_cells": ["scheme", "standing"],
                  "most_cells": ["scheme", "h"], "fewest_lets": ["scheme", "standing", "n"]},
    "storelogs": {"store_log": ["store"], "first_store_fault": ["scheme", "keys", "value"],
                  "is_store_log": ["scheme", "keys", "value"], "history_of": ["scheme", "keys", "log", "key"]},
    "readers": {"final_operands": ["scheme"], "price_of": ["scheme", "row"], "greatest_price": ["scheme"],
                "find_dear": ["scheme"], "find_read_ranks": ["scheme"], "find_dear_ring": ["scheme"],
                "are_read_ranks": ["scheme", "value"], "is_dear_ring": ["scheme", "value"]},
    "papers": {"text_of_scheme": ["scheme"], "read_scheme": ["text"]},
}
STORE = {"write": ["key", "operand"], "merge": ["key", "index"], "settle": ["key"], "compact": ["key"], "hold": [],
         "let": ["number"], "read": ["key"], "read_held": ["number", "key"], "plain": ["key"], "standing_of": ["key"],
         "held": [], "undo": [], "__len__": [], "__eq__": ["other"]}


class Interface(unittest.TestCase):
    def test_each_name_is_defined_in_its_file_with_its_parameters(self):
        for file, names in INTERFACE.items():
            module = importlib.import_module("stackedputs." + file)
            for name, parameters in names.items():
                function = getattr(module, name)
                self.assertEqual(function.__module__, "stackedputs." + file)
                self.assertEqual(list(inspect.signature(function).parameters), parameters, name)

    def test_the_methods_of_the_store_are_defined_in_the_class_itself(self):
        self.assertEqual(Store.__module__, "stackedputs.stores")
        self.assertEqual(list(inspect.signature(Store).parameters), ["scheme", "keys"])
        for name, parameters in STORE.items():
            method = vars(Store)[name]
            self.assertTrue(inspect.isfunction(method))
            self.assertEqual(list(inspect.signature(method).parameters), ["self", *parameters], name)


if __name__ == "__main__":
    unittest.main()
