import unittest

from samples import ODD_VALUES, StrictCase
from stackedputs import errors
from stackedputs.errors import (InvalidHold, InvalidKey, InvalidOperand, InvalidText, NoMerge, NoSettle,
                                StackedputsError, TooManyHolds)

PARAMETERS = {
    InvalidKey: ["key"],
    InvalidOperand: ["operand"],
    NoMerge: ["key", "index"],
    NoSettle: ["key"],
    TooManyHolds: [],
    InvalidHold: ["number"],
    InvalidText: ["text"],
}
HELD_VALUES = ODD_VALUES + [0, 3, (), (1, 2), {"a": [1, {"b": None}]}]


class Classes(unittest.TestCase):
    def test_the_base_is_a_direct_subclass_of_value_error(self):
        self.assertEqual(StackedputsError.__bases__, (ValueError,))

    def test_each_is_a_direct_subclass_of_the_base(self):
        for kind in PARAMETERS:
            self.assertEqual(kind.__bases__, (StackedputsError,), kind)

    def test_none_is_a_subclass_of_another(self):
        for kind in PARAMETERS:
            for other in PARAMETERS:
                self.assertEqual(issubclass(kind, other), kind is other, (kind, other))

    def test_each_is_defined_in_its_file_under_its_name(self):
        for kind in [StackedputsError, *PARAMETERS]:
            self.assertEqual(kind.__module__, "stackedputs.errors")
            self.assertIs(getattr(errors, kind.__name__), kind)


class Attributes(StrictCase):
    def test_each_attribute_holds_what_the_error_was_made_with(self):
        for kind, names in PARAMETERS.items():
            for value in HELD_VALUES:
                error = kind(*[value for _ in names])
                for name in names:
                    self.assert_same(getattr(error, name), value)

    def test_key_and_index_of_no_merge_are_not_mixed_up(self):
        for value in HELD_VALUES:
            error = NoMerge(value, "index")
            self.assert_same([error.key, error.index], [value, "index"])
            error = NoMerge("key", value)
            self.assert_same([error.key, error.index], ["key", value])

    def test_the_attributes_are_there_when_the_error_is_caught(self):
        for kind, names in PARAMETERS.items():
            values = [("value", name) for name in names]
            for caught in (kind, StackedputsError, ValueError):
                with self.assertRaises(caught) as context:
                    raise kind(*values)
                self.assertEqual([getattr(context.exception, name) for name in names], values)

    def test_two_errors_hold_their_own(self):
        one = InvalidKey([1])
        other = InvalidKey([2])
        self.assert_same([one.key, other.key], [[1], [2]])

    def test_making_an_error_leaves_its_arguments(self):
        argument = {"a": [1, (2, None)]}
        for kind, names in PARAMETERS.items():
            kind(*[argument for _ in names])
        self.assert_same(argument, {"a": [1, (2, None)]})

    def test_each_takes_just_its_parameters(self):
        for kind, names in PARAMETERS.items():
            if names:
                with self.assertRaises(TypeError):
                    kind()
                with self.assertRaises(TypeError):
                    kind(*range(len(names) + 1))

    def test_each_error_can_be_shown(self):
        for kind, names in PARAMETERS.items():
            for value in HELD_VALUES:
                error = kind(*[value for _ in names])
                self.assertIsInstance(str(error), str)
                self.assertIsInstance(repr(error), str)


if __name__ == "__main__":
    unittest.main()
