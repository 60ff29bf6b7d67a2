"""The errors of the interface, in both places where it lists them."""

import copy
import inspect
import pickle
import unittest

from sharedlines import errors
from tests.values import any_values

PARAMETERS = {
    "BadCells": [], "BadRoom": [], "BadLines": [], "UnknownCell": ["cell"],
    "InvalidText": ["row"], "BadState": [], "BadRun": ["index"],
    "TooManyStates": [], "OtherCells": [], "NoLayout": [], "BadLine": [],
    "TooManyThreads": [], "NameTaken": ["name"], "UnknownThread": ["name"],
    "BadTarget": [], "UnknownMark": ["number"], "BadOdds": [],
    "BadMixture": [], "Picked": [], "NotPicked": [], "NothingDone": [],
    "BadReport": [],
}


class Family(unittest.TestCase):
    def test_line_error_is_a_direct_subclass_of_value_error(self):
        self.assertEqual(errors.LineError.__bases__, (ValueError,))

    def test_each_class_is_a_direct_subclass_of_line_error(self):
        for name in PARAMETERS:
            with self.subTest(name):
                self.assertEqual(getattr(errors, name).__bases__, (errors.LineError,))

    def test_none_is_a_subclass_of_another_one(self):
        for name in PARAMETERS:
            for other in PARAMETERS:
                with self.subTest(name=name, other=other):
                    found = issubclass(getattr(errors, name), getattr(errors, other))
                    self.assertEqual(found, name == other)

    def test_all_are_defined_in_the_file_and_there_are_no_others(self):
        classes = inspect.getmembers(errors, inspect.isclass)
        self.assertEqual({name for name, _ in classes}, {"LineError", *PARAMETERS})
        self.assertEqual({kind.__module__ for _, kind in classes}, {"sharedlines.errors"})


class Attributes(unittest.TestCase):
    def test_without_attributes(self):
        for name, parameters in PARAMETERS.items():
            if not parameters:
                with self.subTest(name):
                    error = getattr(errors, name)()
                    self.assertEqual(vars(error), {})
                    self.assertIsInstance(str(error), str)
        self.assertIsInstance(errors.LineError(), ValueError)

    def test_by_position_and_by_name_with_whatever_values(self):
        for name, parameters in PARAMETERS.items():
            for parameter in parameters:
                for value in any_values():
                    kind = getattr(errors, name)
                    for error in (kind(value), kind(**{parameter: value})):
                        with self.subTest(name):
                            self.assertEqual(vars(error), {parameter: value})
                            self.assertIs(vars(error)[parameter], value)

    def test_attributes_have_the_kind_that_was_passed(self):
        self.assertIs(errors.BadRun(True).index, True)
        self.assertEqual(errors.BadRun(1).index, 1)
        self.assertNotIsInstance(errors.BadRun(1).index, bool)

    def test_just_the_listed_arguments(self):
        for name, parameters in PARAMETERS.items():
            if parameters:
                with self.subTest(name):
                    kind = getattr(errors, name)
                    self.assertEqual(list(inspect.signature(kind).parameters), parameters)
                    self.assertRaises(TypeError, kind)

    def test_each_can_be_raised_shown_and_copied(self):
        for name, parameters in PARAMETERS.items():
            for value in any_values():
                error = getattr(errors, name)(*[value for _ in parameters])
                with self.subTest(name):
                    with self.assertRaises(errors.LineError) as caught:
                        raise error
                    self.assertIs(caught.exception, error)
                    self.assertIsInstance(str(error), str)
                    self.assertEqual(vars(copy.copy(error)), vars(error))
                    self.assertEqual(vars(pickle.loads(pickle.dumps(error))), vars(error))


if __name__ == "__main__":
    unittest.main()
