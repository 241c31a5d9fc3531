"""[0.2]: which values are accepted, which error bears which one, and what is returned."""

import copy
import importlib
import inspect
import unittest

from roundstairs import errors
from roundstairs.apart import apart_holds, judge_apart, stair_stretches, trimmed
from roundstairs.books import (
    book_of, dimension, has_word, is_book, partner_of, within, words_of)
from roundstairs.changes import cover, cut_bound, renamed, turned
from roundstairs.least import (
    fewest_greatest, fewest_sum, judge_least, judge_rows, least_holds, least_sizes, making_below, rows_hold)
from roundstairs.makings import is_making, making_sizes, marks_of, round_by, stair_of
from roundstairs.nearest import judge_nearest, mark_prices, nearest_holds, nearest_words, price_of
from roundstairs.partners import dimensions, is_joined, partner_stair
from roundstairs.stairs import (
    is_round, is_sharp, is_stair, is_trim, judge_word, round_count, rooms_of, rounds_of, spelled, steps_of, word_holds)
from roundstairs.stretches import (
    does_lie_over, inner_times, is_full, is_stretch, list_of, places_in, stretches_of, words_over)
from roundstairs.turns import (
    fewest_turns, is_long_round, judge_mean, judge_turns, least_mean, mean_holds, turns_hold)
from tests import oracles
from tests.samples import EVEN, MAKING, OPEN, any_values, mangled, not_full_books

INTERFACE = {
    "roundstairs.books": {
        "is_book": ("thing",), "book_of": ("q", "n", "rows"), "dimension": ("book",), "words_of": ("book",),
        "has_word": ("book", "row"), "partner_of": ("book",), "within": ("book", "places")},
    "roundstairs.stairs": {
        "is_stair": ("thing",), "rooms_of": ("stair", "time"), "steps_of": ("stair", "place"),
        "is_round": ("stair", "thing"), "round_count": ("stair",), "rounds_of": ("stair",), "spelled": ("stair",),
        "is_sharp": ("stair",), "is_trim": ("stair",), "judge_word": ("stair", "row"),
        "word_holds": ("stair", "row", "thing")},
    "roundstairs.stretches": {
        "is_stretch": ("n", "thing"), "places_in": ("n", "stretch"), "inner_times": ("n", "stretch"),
        "stretches_of": ("q", "row"), "does_lie_over": ("q", "row", "stretch"), "is_full": ("book",),
        "list_of": ("book",), "words_over": ("book", "stretch")},
    "roundstairs.makings": {
        "is_making": ("book", "thing"), "making_sizes": ("book", "making"), "stair_of": ("book", "making"),
        "marks_of": ("book", "making", "row"), "round_by": ("book", "making", "row")},
    "roundstairs.least": {
        "judge_rows": ("book", "stretches"), "rows_hold": ("book", "stretches", "thing"), "least_sizes": ("book",),
        "making_below": ("book", "sizes"), "fewest_greatest": ("book",), "fewest_sum": ("book",),
        "judge_least": ("stair",), "least_holds": ("stair", "thing")},
    "roundstairs.apart": {
        "judge_apart": ("stair",), "apart_holds": ("stair", "thing"), "stair_stretches": ("stair",),
        "trimmed": ("stair",)},
    "roundstairs.partners": {
        "partner_stair": ("stair",), "is_joined": ("stair",), "dimensions": ("stair",)},
    "roundstairs.changes": {
        "turned": ("stair", "t"), "renamed": ("stair", "tables"), "cover": ("stair", "m"),
        "cut_bound": ("book", "s", "t")},
    "roundstairs.nearest": {
        "judge_nearest": ("stair", "prices"), "nearest_holds": ("stair", "prices", "thing"),
        "nearest_words": ("stair", "prices"), "mark_prices": ("stair", "prices"),
        "price_of": ("stair", "prices", "word")},
    "roundstairs.turns": {
        "is_long_round": ("stair", "thing"), "judge_mean": ("stair", "prices"),
        "mean_holds": ("stair", "prices", "thing"), "least_mean": ("stair", "prices"),
        "judge_turns": ("stair", "prices"), "turns_hold": ("stair", "prices", "thing"),
        "fewest_turns": ("stair", "prices")},
}

LAP = (((), (1,), (0,), (0,)), (1, 1, 0, 0))

TABLES = ((), ((1,),), ((1,),), ((1,),))
PRICES = ((0, 3), (0, -1), (2, 0), (1, -1))
# Certificates for OPEN and PRICES.
NEAREST = ("nearest", (0, 0, 1, 1), (((0,), (0, 3), (0, -1), (-1, 0), (-1,)),))
LOW = ((0,), (0, 3), (0, -1), (-1, 0))
MEAN = ("mean", (-1, 1), ((), (0,), (0,), (1,)) * 2, (0, 0, 1, 1) * 2, LOW)
GOING = ("word", (0, 0, 1, 1), LOW)

# For each function some arguments that it accepts.
CALLS = (
    (is_book, {"thing": EVEN}),
    (book_of, {"q": 3, "n": 4, "rows": ((0, 1, 2, 0), (2, 2, 2, 2))}),
    (dimension, {"book": EVEN}),
    (words_of, {"book": EVEN}),
    (has_word, {"book": EVEN, "row": (1, 1, 0, 0)}),
    (partner_of, {"book": EVEN}),
    (within, {"book": EVEN, "places": (0, 2)}),
    (is_stair, {"thing": OPEN}),
    (rooms_of, {"stair": OPEN, "time": 1}),
    (steps_of, {"stair": OPEN, "place": 3}),
    (is_round, {"stair": OPEN, "thing": LAP}),
    (round_count, {"stair": OPEN}),
    (rounds_of, {"stair": OPEN}),
    (spelled, {"stair": OPEN}),
    (is_sharp, {"stair": OPEN}),
    (is_trim, {"stair": OPEN}),
    (judge_word, {"stair": OPEN, "row": (1, 0, 0, 0)}),
    (word_holds, {"stair": OPEN, "row": (1, 1, 0, 0), "thing": ("round", LAP)}),
    (is_stretch, {"n": 4, "thing": (2, 0)}),
    (places_in, {"n": 4, "stretch": (2, 0)}),
    (inner_times, {"n": 4, "stretch": (2, 0)}),
    (stretches_of, {"q": 2, "row": (1, 1, 0, 1)}),
    (does_lie_over, {"q": 2, "row": (1, 1, 0, 1), "stretch": (0, 1)}),
    (is_full, {"book": EVEN}),
    (list_of, {"book": EVEN}),
    (words_over, {"book": EVEN, "stretch": (2, 0)}),
    (is_making, {"book": EVEN, "thing": MAKING}),
    (making_sizes, {"book": EVEN, "making": MAKING}),
    (stair_of, {"book": EVEN, "making": MAKING}),
    (marks_of, {"book": EVEN, "making": MAKING, "row": (1, 0, 0, 1)}),
    (round_by, {"book": EVEN, "making": MAKING, "row": (1, 0, 0, 1)}),
    (judge_rows, {"book": EVEN, "stretches": ((3, 0), (1, 2))}),
    (rows_hold, {"book": EVEN, "stretches": ((3, 0),), "thing": ("rows", ((1, 0, 0, 1),))}),
    (least_sizes, {"book": EVEN}),
    (making_below, {"book": EVEN, "sizes": (2, 1, 0, 1)}),
    (fewest_greatest, {"book": EVEN}),
    (fewest_sum, {"book": EVEN}),
    (judge_least, {"stair": OPEN}),
    (least_holds, {"stair": OPEN, "thing": ("least",)}),
    (judge_apart, {"stair": OPEN}),
    (apart_holds, {"stair": OPEN, "thing": ("apart", ())}),
    (stair_stretches, {"stair": OPEN}),
    (trimmed, {"stair": OPEN}),
    (partner_stair, {"stair": OPEN}),
    (is_joined, {"stair": OPEN}),
    (dimensions, {"stair": OPEN}),
    (turned, {"stair": OPEN, "t": -3}),
    (renamed, {"stair": OPEN, "tables": TABLES}),
    (cover, {"stair": OPEN, "m": 2}),
    (cut_bound, {"book": EVEN, "s": 1, "t": 3}),
    (judge_nearest, {"stair": OPEN, "prices": PRICES}),
    (nearest_holds, {"stair": OPEN, "prices": PRICES, "thing": NEAREST}),
    (nearest_words, {"stair": OPEN, "prices": PRICES}),
    (mark_prices, {"stair": OPEN, "prices": PRICES}),
    (price_of, {"stair": OPEN, "prices": PRICES, "word": (1, 1, 1, 0)}),
    (is_long_round, {"stair": OPEN, "thing": (LAP[0] * 2, LAP[1] * 2)}),
    (judge_mean, {"stair": OPEN, "prices": PRICES}),
    (mean_holds, {"stair": OPEN, "prices": PRICES, "thing": MEAN}),
    (least_mean, {"stair": OPEN, "prices": PRICES}),
    (judge_turns, {"stair": OPEN, "prices": PRICES}),
    (turns_hold, {"stair": OPEN, "prices": PRICES, "thing": GOING}),
    (fewest_turns, {"stair": OPEN, "prices": PRICES}),
)


def is_told_sizes(n, value):
    return type(value) is tuple and len(value) == n and all(oracles.is_int(size) and size >= 0 for size in value)


YES_OR_NO = ("is_book", "has_word", "is_stair", "is_round", "is_sharp", "is_trim", "word_holds", "is_stretch",
             "does_lie_over", "is_full", "is_making", "rows_hold", "least_holds", "apart_holds", "is_joined",
             "nearest_holds", "is_long_round", "mean_holds", "turns_hold")
NEEDS_FULL = ("list_of", "judge_rows", "rows_hold", "least_sizes", "making_below", "fewest_greatest", "fewest_sum",
              "judge_least", "least_holds")

# For each parameter its error, and whether a value is of the kind; EVEN and OPEN have four places.
KINDS = {
    "q": (errors.BadField, lambda value: oracles.is_int(value) and value in oracles.FIELDS),
    "n": (errors.BadLength, lambda value: oracles.is_int(value) and 2 <= value <= 12),
    "book": (errors.BadBook, oracles.is_book),
    "stair": (errors.BadStair, oracles.is_stair),
    "time": (errors.BadTime, lambda value: oracles.is_int(value) and 0 <= value < 4),
    "place": (errors.BadPlace, lambda value: oracles.is_int(value) and 0 <= value < 4),
    "places": (errors.BadPlaces, lambda value: oracles.is_places(4, value)),
    "stretch": (errors.BadStretch, lambda value: oracles.is_stretch(4, value)),
    "making": (errors.BadMaking, lambda value: oracles.is_making(EVEN, value)),
    "stretches": (errors.BadStretches, lambda value: oracles.is_lot(EVEN, value)),
    "sizes": (errors.BadSizes, lambda value: is_told_sizes(4, value)),
    "t": (errors.BadNumber, oracles.is_int),
    "m": (errors.BadNumber, lambda value: oracles.is_int(value) and value >= 1),
    "tables": (errors.BadTables, lambda value: oracles.is_tables(OPEN, value)),
    "prices": (errors.BadPrices, lambda value: oracles.is_prices(OPEN, value)),
    "word": (errors.BadRow, lambda value: oracles.is_row(2, 4, value)),
}
# The two times of cut_bound; the second one is to be another one than 1.
TIMES = {
    "s": (errors.BadTime, lambda value: oracles.is_int(value) and 0 <= value < 4),
    "t": (errors.BadTime, lambda value: oracles.is_int(value) and value in (0, 2, 3)),
}


def is_row_for(name, value):
    """Whether a value is a row that a function takes, by 2."""
    if name in ("stretches_of", "does_lie_over"):
        return type(value) is tuple and 2 <= len(value) <= 12 and oracles.is_row(2, len(value), value)
    # EVEN and OPEN are by 2 and have four places.
    if name in ("marks_of", "round_by"):
        return oracles.is_row(2, 4, value) and value in oracles.words(EVEN)
    return oracles.is_row(2, 4, value)


def told_kind(function, parameter):
    if function.__name__ == "cut_bound" and parameter in TIMES:
        return TIMES[parameter]
    if parameter == "row":
        return errors.BadRow, lambda value: is_row_for(function.__name__, value)
    return KINDS[parameter]


def is_kind(function, parameter, value):
    return told_kind(function, parameter)[1](value)


def error_of(function, parameter):
    return told_kind(function, parameter)[0]


def checked_parameters(arguments):
    return [name for name in arguments if name not in ("thing", "rows")]


def is_plainly_built(value):
    """Whether a value consists of integers, strings, bools, None and tuples."""
    if type(value) is tuple:
        return all(is_plainly_built(item) for item in value)
    return value is None or type(value) in (int, str, bool)


def has_bool(value):
    return type(value) is bool or type(value) is tuple and any(has_bool(item) for item in value)


class InterfaceTest(unittest.TestCase):

    def test_each_name_is_defined_in_its_file_with_its_parameters(self):
        for module, functions in INTERFACE.items():
            for name, parameters in functions.items():
                with self.subTest(name):
                    function = getattr(importlib.import_module(module), name)
                    self.assertEqual(function.__module__, module)
                    found = inspect.signature(function).parameters
                    self.assertEqual(tuple(found), parameters)
                    for parameter in found.values():
                        self.assertIs(parameter.kind, inspect.Parameter.POSITIONAL_OR_KEYWORD)
                        self.assertIs(parameter.default, inspect.Parameter.empty)

    def test_the_calls_go_through_the_whole_interface(self):
        names = [name for functions in INTERFACE.values() for name in functions]
        self.assertEqual(sorted(function.__name__ for function, _ in CALLS), sorted(names))


class CallTest(unittest.TestCase):

    def check_error(self, function, arguments, error, thing):
        with self.assertRaises(errors.StairError) as caught:
            function(**arguments)
        self.assertIs(type(caught.exception), error)
        self.assertIs(caught.exception.thing, thing)

    def test_by_position_by_name_and_again(self):
        for function, arguments in CALLS:
            with self.subTest(function.__name__):
                answer = function(**arguments)
                self.assertEqual(repr(function(*arguments.values())), repr(answer))
                backwards = {name: arguments[name] for name in reversed(arguments)}
                self.assertEqual(repr(function(**backwards)), repr(answer))

    def test_answers_are_plainly_built(self):
        for function, arguments in CALLS:
            with self.subTest(function.__name__):
                answer = function(**arguments)
                self.assertTrue(is_plainly_built(answer))
                if function.__name__ in YES_OR_NO:
                    self.assertIs(type(answer), bool)
                else:
                    self.assertFalse(has_bool(answer))

    def test_any_value_as_each_parameter(self):
        for function, arguments in CALLS:
            for parameter in checked_parameters(arguments):
                for value in any_values() + list(mangled(arguments[parameter])):
                    if not is_kind(function, parameter, value):
                        changed = {**arguments, parameter: value}
                        self.check_error(function, changed, error_of(function, parameter), value)

    def test_values_of_the_kind_raise_nothing(self):
        for function, arguments in CALLS:
            for parameter in checked_parameters(arguments):
                for value in list(mangled(arguments[parameter])):
                    # Other values may be right by themselves, but not beside the others or not small enough.
                    if is_kind(function, parameter, value) and parameter not in ("q", "n", "book", "stair", "m"):
                        function(**{**arguments, parameter: value})

    def test_the_first_of_several_errors(self):
        for function, arguments in CALLS:
            checked = checked_parameters(arguments)
            for at, first in enumerate(checked):
                for value in (None, True, -1, [], "x", (True,)):
                    if is_kind(function, first, value):
                        continue
                    changed = dict(arguments)
                    for parameter in checked[at:]:
                        changed[parameter] = value if parameter == first else {parameter: 0}
                    for parameter in ("thing", "rows"):
                        if parameter in changed:
                            changed[parameter] = {}
                    self.check_error(function, changed, error_of(function, first), value)

    def test_rows_that_are_none(self):
        for value in any_values():
            if type(value) is not tuple:
                self.check_error(book_of, {"q": 2, "n": 4, "rows": value}, errors.BadRow, value)
            if not oracles.is_row(2, 4, value):
                rows = ((0, 0, 1, 0), (1, 1, 1, 1), value, None, (2, 2))
                self.check_error(book_of, {"q": 2, "n": 4, "rows": rows}, errors.BadRow, value)

    def test_any_value_as_thing_is_answered_by_true_or_false(self):
        for value in any_values():
            self.assertIs(is_book(value), oracles.is_book(value))
            self.assertIs(is_stair(value), oracles.is_stair(value))
            self.assertIs(word_holds(OPEN, (1, 1, 0, 0), ("against", value)), False)
        for function, arguments in CALLS:
            if "thing" in arguments:
                self.assertIn(function.__name__, YES_OR_NO)
                for value in any_values() + list(mangled(arguments["thing"])):
                    for thing in (value, ("round", value), ("rows", value), ("tight", value), ("lesser", value),
                                  ("apart", value), ("room", value, value), ("step", 1, value), (value, (0, 1)),
                                  ("nearest", value, value), NEAREST[:2] + (value,), ("word", value, value),
                                  GOING[:2] + (value,), ("round", value, value), ("mean", value) + MEAN[2:],
                                  ("mean", value, value, value, value), MEAN[:4] + (value,), (value, LAP[1]),
                                  (LAP[0], value)):
                        self.assertIs(type(function(**{**arguments, "thing": thing})), bool)

    def test_certificates_of_the_calls_are_right(self):
        right = [function.__name__ for function, arguments in CALLS
                 if "thing" in arguments and function(**arguments) is True]
        self.assertEqual([function.__name__ for function, arguments in CALLS if "thing" in arguments
                          and function.__name__ not in right], ["apart_holds"])

    def test_too_many_places_come_last(self):
        for value in (4, 5, 12, 10 ** 39):
            with self.assertRaises(errors.TooMany) as caught:
                cover(stair=OPEN, m=value)
            self.assertEqual(vars(caught.exception), {"most": 12})
            self.check_error(cover, {"stair": None, "m": value}, errors.BadStair, None)

    def test_the_same_time_twice(self):
        for time in range(4):
            self.check_error(cut_bound, {"book": EVEN, "s": time, "t": time}, errors.BadTime, time)

    def test_books_that_are_not_full(self):
        for function, arguments in CALLS:
            first = list(arguments)[0]
            for book in not_full_books():
                # Nothing goes round but the words, so there are no rooms at all.
                n = book[1]
                stair = (book[0], (0,) * n, tuple(((1,),) if any(row[at] for row in book[2]) else () for at in range(n)))
                if first in ("book", "stair") and (function.__name__ in NEEDS_FULL):
                    changed = {**{name: None for name in arguments}, first: book if first == "book" else stair}
                    with self.assertRaises(errors.NotFull) as caught:
                        function(**changed)
                    self.assertIs(type(caught.exception), errors.NotFull)
                elif first == "book":
                    self.assertNotIn("NotFull", self.outcome(function, {**arguments, "book": book}))
                elif first == "stair":
                    self.assertNotIn("NotFull", self.outcome(function, {**arguments, "stair": stair}))

    def test_no_argument_is_changed(self):
        for function, arguments in CALLS:
            for parameter in arguments:
                for value in any_values():
                    changed = {**arguments, parameter: value}
                    before = copy.deepcopy(changed)
                    first = self.outcome(function, changed)
                    self.assertEqual(repr(changed), repr(before))
                    self.assertEqual(self.outcome(function, changed), first)

    def outcome(self, function, arguments):
        """What a call returns or raises, as text."""
        try:
            return repr(function(**arguments))
        except errors.StairError as error:
            return type(error).__name__ + repr(vars(error))
