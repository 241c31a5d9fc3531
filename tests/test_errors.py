"""The interface of roundstairs/errors.py."""

import inspect
import unittest

from roundstairs import errors
from tests.samples import any_values

WITH_THING = ("BadField", "BadLength", "BadRow", "BadBook", "BadPlaces", "BadStair", "BadTime", "BadPlace",
              "BadStretch", "BadMaking", "BadStretches", "BadSizes", "BadNumber", "BadTables", "BadPrices")
PARAMETERS = {name: ("thing",) for name in WITH_THING}
PARAMETERS.update({"NotFull": (), "NotTrim": ("certificate",), "TooMany": ("most",)})


class ErrorsTest(unittest.TestCase):

    def test_the_base_class(self):
        self.assertEqual(errors.StairError.__bases__, (Exception,))
        self.assertEqual(errors.StairError.__module__, "roundstairs.errors")

    def test_each_class_is_a_direct_subclass(self):
        for name in PARAMETERS:
            with self.subTest(name):
                made = getattr(errors, name)
                self.assertEqual(made.__bases__, (errors.StairError,))
                self.assertEqual(made.__module__, "roundstairs.errors")
                self.assertEqual(made.__name__, name)

    def test_there_are_no_others(self):
        names = [name for name, _ in inspect.getmembers(errors, inspect.isclass)]
        self.assertEqual(sorted(names), sorted([*PARAMETERS, "StairError"]))

    def test_parameters_are_attributes_of_any_value(self):
        for name, parameters in PARAMETERS.items():
            for value in any_values():
                for parameter in parameters:
                    by_position = getattr(errors, name)(value)
                    by_name = getattr(errors, name)(**{parameter: value})
                    self.assertIs(getattr(by_position, parameter), value)
                    self.assertIs(getattr(by_name, parameter), value)
                    self.assertEqual(list(vars(by_position)), [parameter])

    def test_each_class_takes_its_parameters_alone(self):
        for name, parameters in PARAMETERS.items():
            with self.subTest(name):
                made = getattr(errors, name)
                made(*parameters)
                with self.assertRaises(TypeError):
                    raise made(*parameters, **{"other": 1})
                if parameters:
                    self.assertIn("__init__", vars(made))
                    self.assertEqual(tuple(inspect.signature(made).parameters), parameters)
                    with self.assertRaises(TypeError):
                        raise made()

    def test_they_are_caught_by_the_base_class(self):
        for name, parameters in PARAMETERS.items():
            with self.assertRaises(errors.StairError) as caught:
                raise getattr(errors, name)(*parameters)
            self.assertIs(type(caught.exception), getattr(errors, name))
