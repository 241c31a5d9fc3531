"""[0.2]: which values are accepted, which error bears which one, and what is returned."""

import copy
import importlib
import inspect
import unittest

from roundstairs import errors
from roundstairs.books import (
    book_of, dimension, has_word, is_book, partner_of, within, words_of)
from roundstairs.stairs import (
    is_round, is_sharp, is_stair, is_trim, judge_word, round_count, rooms_of, rounds_of, spelled, steps_of, word_holds)
from tests import oracles
from tests.samples import EVEN, OPEN, any_values, mangled

INTERFACE = {
    "roundstairs.books": {
        "is_book": ("thing",), "book_of": ("q", "n", "rows"), "dimension": ("book",), "words_of": ("book",),
        "has_word": ("book", "row"), "partner_of": ("book",), "within": ("book", "places")},
    "roundstairs.stairs": {
        "is_stair": ("thing",), "rooms_of": ("stair", "time"), "steps_of": ("stair", "place"),
        "is_round": ("stair", "thing"), "round_count": ("stair",), "rounds_of": ("stair",), "spelled": ("stair",),
        "is_sharp": ("stair",), "is_trim": ("stair",), "judge_word": ("stair", "row"),
        "word_holds": ("stair", "row", "thing")},
}

LAP = (((), (1,), (0,), (0,)), (1, 1, 0, 0))

# For each function some arguments that it accepts.
CALLS = (
    (is_book, {"thing": EVEN}),
    (book_of, {"q": 3, "n": 4, "rows": ((0, 1, 2, 0), (2, 2, 2, 2))}),
    (dimension, {"book": EVEN}),
    (words_of, {"book": EVEN}),
    (has_word, {"book": EVEN, "row": (1, 1, 0, 0)}),
    (partner_of, {"book": EVEN}),
    (within, {"book": EVEN, "places": (0, 2)}),
    (is_stair, {"thing": OPEN}),
    (rooms_of, {"stair": OPEN, "time": 1}),
    (steps_of, {"stair": OPEN, "place": 3}),
    (is_round, {"stair": OPEN, "thing": LAP}),
    (round_count, {"stair": OPEN}),
    (rounds_of, {"stair": OPEN}),
    (spelled, {"stair": OPEN}),
    (is_sharp, {"stair": OPEN}),
    (is_trim, {"stair": OPEN}),
    (judge_word, {"stair": OPEN, "row": (1, 0, 0, 0)}),
    (word_holds, {"stair": OPEN, "row": (1, 1, 0, 0), "thing": ("round", LAP)}),
)

YES_OR_NO = ("is_book", "has_word", "is_stair", "is_round", "is_sharp", "is_trim", "word_holds")

# For each parameter its error, and whether a value is of the kind; EVEN and OPEN have four places.
KINDS = {
    "q": (errors.BadField, lambda value: oracles.is_int(value) and value in oracles.FIELDS),
    "n": (errors.BadLength, lambda value: oracles.is_int(value) and 2 <= value <= 12),
    "book": (errors.BadBook, oracles.is_book),
    "stair": (errors.BadStair, oracles.is_stair),
    "time": (errors.BadTime, lambda value: oracles.is_int(value) and 0 <= value < 4),
    "place": (errors.BadPlace, lambda value: oracles.is_int(value) and 0 <= value < 4),
    "places": (errors.BadPlaces, lambda value: oracles.is_places(4, value)),
}


def is_kind(function, parameter, value):
    if parameter == "row":
        # EVEN and OPEN are by 2 and have four places.
        return oracles.is_row(2, 4, value)
    return KINDS[parameter][1](value)


def error_of(parameter):
    return errors.BadRow if parameter == "row" else KINDS[parameter][0]


def checked_parameters(arguments):
    return [name for name in arguments if name not in ("thing", "rows")]


def is_plainly_built(value):
    """Whether a value consists of integers, strings, bools, None and tuples."""
    if type(value) is tuple:
        return all(is_plainly_built(item) for item in value)
    return value is None or type(value) in (int, str, bool)


def has_bool(value):
    return type(value) is bool or type(value) is tuple and any(has_bool(item) for item in value)


class InterfaceTest(unittest.TestCase):

    def test_each_name_is_defined_in_its_file_with_its_parameters(self):
        for module, functions in INTERFACE.items():
            for name, parameters in functions.items():
                with self.subTest(name):
                    function = getattr(importlib.import_module(module), name)
                    self.assertEqual(function.__module__, module)
                    found = inspect.signature(function).parameters
                    self.assertEqual(tuple(found), parameters)
                    for parameter in found.values():
                        self.assertIs(parameter.kind, inspect.Parameter.POSITIONAL_OR_KEYWORD)
                        self.assertIs(parameter.default, inspect.Parameter.empty)

    def test_the_calls_go_through_the_whole_interface(self):
        names = [name for functions in INTERFACE.values() for name in functions]
        self.assertEqual(sorted(function.__name__ for function, _ in CALLS), sorted(names))


class CallTest(unittest.TestCase):

    def check_error(self, function, arguments, error, thing):
        with self.assertRaises(errors.StairError) as caught:
            function(**arguments)
        self.assertIs(type(caught.exception), error)
        self.assertIs(caught.exception.thing, thing)

    def test_by_position_by_name_and_again(self):
        for function, arguments in CALLS:
            with self.subTest(function.__name__):
                answer = function(**arguments)
                self.assertEqual(repr(function(*arguments.values())), repr(answer))
                backwards = {name: arguments[name] for name in reversed(arguments)}
                self.assertEqual(repr(function(**backwards)), repr(answer))

    def test_answers_are_plainly_built(self):
        for function, arguments in CALLS:
            with self.subTest(function.__name__):
                answer = function(**arguments)
                self.assertTrue(is_plainly_built(answer))
                if function.__name__ in YES_OR_NO:
                    self.assertIs(type(answer), bool)
                else:
                    self.assertFalse(has_bool(answer))

    def test_any_value_as_each_parameter(self):
        for function, arguments in CALLS:
            for parameter in checked_parameters(arguments):
                for value in any_values() + list(mangled(arguments[parameter])):
                    if not is_kind(function, parameter, value):
                        changed = {**arguments, parameter: value}
                        self.check_error(function, changed, error_of(parameter), value)

    def test_values_of_the_kind_raise_nothing(self):
        for function, arguments in CALLS:
            for parameter in checked_parameters(arguments):
                for value in list(mangled(arguments[parameter])):
                    if is_kind(function, parameter, value) and parameter not in ("q", "n", "book", "stair"):
                        function(**{**arguments, parameter: value})

    def test_the_first_of_several_errors(self):
        for function, arguments in CALLS:
            checked = checked_parameters(arguments)
            for at, first in enumerate(checked):
                for value in (None, True, -1, [], "x", (True,)):
                    changed = dict(arguments)
                    for parameter in checked[at:]:
                        changed[parameter] = value if parameter == first else {parameter: 0}
                    for parameter in ("thing", "rows"):
                        if parameter in changed:
                            changed[parameter] = {}
                    self.check_error(function, changed, error_of(first), value)

    def test_rows_that_are_none(self):
        for value in any_values():
            if type(value) is not tuple:
                self.check_error(book_of, {"q": 2, "n": 4, "rows": value}, errors.BadRow, value)
            if not oracles.is_row(2, 4, value):
                rows = ((0, 0, 1, 0), (1, 1, 1, 1), value, None, (2, 2))
                self.check_error(book_of, {"q": 2, "n": 4, "rows": rows}, errors.BadRow, value)

    def test_any_value_as_thing_is_answered_by_true_or_false(self):
        for value in any_values():
            self.assertIs(is_book(value), oracles.is_book(value))
            self.assertIs(is_stair(value), oracles.is_stair(value))
            self.assertIs(type(is_round(OPEN, value)), bool)
            self.assertIs(type(word_holds(OPEN, (1, 0, 0, 0), value)), bool)
            self.assertIs(type(word_holds(OPEN, (1, 1, 0, 0), ("round", value))), bool)
            self.assertIs(word_holds(OPEN, (1, 1, 0, 0), ("against", value)), False)

    def test_no_argument_is_changed(self):
        for function, arguments in CALLS:
            for parameter in arguments:
                for value in any_values():
                    changed = {**arguments, parameter: value}
                    before = copy.deepcopy(changed)
                    first = self.outcome(function, changed)
                    self.assertEqual(repr(changed), repr(before))
                    self.assertEqual(self.outcome(function, changed), first)

    def outcome(self, function, arguments):
        """What a call returns or raises, as text."""
        try:
            return repr(function(**arguments))
        except errors.StairError as error:
            return type(error).__name__ + repr(vars(error))
