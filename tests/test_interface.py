import importlib
import inspect
import unittest

INTERFACE = {
    "schemes": {"is_scheme": ["value"], "effect": ["scheme", "operand", "state"], "rule_for": ["scheme", "a", "b"],
                "row_effect": ["scheme", "row"]},
    "reach": {"state_after": ["scheme", "state", "row"], "reached": ["scheme"], "ways": ["scheme"],
              "way_to": ["scheme", "state"], "is_way": ["scheme", "state", "value"]},
}


class Interface(unittest.TestCase):
    def test_each_name_is_defined_in_its_file_with_its_parameters(self):
        for file, names in INTERFACE.items():
            module = importlib.import_module("stackedputs." + file)
            for name, parameters in names.items():
                function = getattr(module, name)
                self.assertEqual(function.__module__, "stackedputs." + file)
                self.assertEqual(list(inspect.signature(function).parameters), parameters, name)


if __name__ == "__main__":
    unittest.main()
