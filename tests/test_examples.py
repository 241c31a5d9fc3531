"""The examples of the document, word for word, with the answers that it gives."""

import pathlib
import re
import unittest

from roundstairs import errors

BOOKS = """
>>> from roundstairs.books import book_of, dimension, has_word, is_book, partner_of, within, words_of
>>> EVEN = (2, 4, ((1, 0, 0, 1), (0, 1, 0, 1), (0, 0, 1, 1)))
>>> PAIRS = (2, 4, ((1, 0, 1, 0), (0, 1, 0, 1)))
>>> [is_book(EVEN), is_book((2, 3, ((1, 1, 0), (0, 1, 1)))), book_of(2, 4, ((1, 1, 0, 0), (0, 1, 1, 0), (0, 0, 1, 1))) == EVEN, book_of(3, 2, ((2, 1),)), dimension(EVEN), words_of(PAIRS)]
[True, False, True, (3, 2, ((1, 2),)), 3, ((0, 0, 0, 0), (0, 1, 0, 1), (1, 0, 1, 0), (1, 1, 1, 1))]
>>> [partner_of(EVEN), partner_of(PAIRS) == PAIRS, within(EVEN, (0, 1, 2)), has_word(EVEN, (1, 1, 1, 0))]
[(2, 4, ((1, 1, 1, 1),)), True, (2, 4, ((1, 0, 1, 0), (0, 1, 1, 0))), False]
>>> book_of(2, 2, ((1, 2),))
raises BadRow(thing=(1, 2))
"""

STAIRS = """
>>> from roundstairs.stairs import is_round, is_sharp, is_stair, is_trim, judge_word, round_count, rooms_of, spelled, steps_of, word_holds
>>> EVEN = (2, 4, ((1, 0, 0, 1), (0, 1, 0, 1), (0, 0, 1, 1)))
>>> PASS = ((1, 0, 1), (0, 1, 1))
>>> OPEN, ROUND = (2, (0, 1, 1, 1), (((1, 1),), PASS, PASS, ((1, 1),))), (2, (1, 1, 1, 1), (PASS, PASS, PASS, PASS))
>>> [is_stair(OPEN), is_stair((2, (0, 1), (((1, 1),), ((1, 0),)))), spelled(OPEN) == EVEN, spelled(ROUND) == EVEN, round_count(OPEN), round_count(ROUND), is_sharp(OPEN), is_sharp(ROUND), is_trim(ROUND)]
[True, True, True, True, 3, 4, True, False, True]
>>> [rooms_of(OPEN, 0), rooms_of(OPEN, 1), steps_of(OPEN, 1), is_round(OPEN, (((), (1,), (0,), (0,)), (1, 1, 0, 0))), judge_word(OPEN, (1, 1, 0, 0)), word_holds(OPEN, (1, 0, 0, 0), ('against', (1, 1, 1, 1)))]
[((),), ((0,), (1,)), ((0, 0, 0), (0, 1, 1), (1, 0, 1), (1, 1, 0)), True, ('round', (((), (1,), (0,), (0,)), (1, 1, 0, 0))), True]
"""

STRETCHES = """
>>> from roundstairs.stretches import does_lie_over, inner_times, is_full, is_stretch, list_of, places_in, stretches_of, words_over
>>> EVEN = (2, 4, ((1, 0, 0, 1), (0, 1, 0, 1), (0, 0, 1, 1)))
>>> PAIRS = (2, 4, ((1, 0, 1, 0), (0, 1, 0, 1)))
>>> [places_in(4, (2, 0)), inner_times(4, (2, 0)), inner_times(4, (1, 1)), stretches_of(2, (1, 0, 1, 0)), stretches_of(3, (0, 2, 0)), does_lie_over(2, (1, 0, 1, 0), (2, 0)), is_stretch(4, (0, 4))]
[(2, 3, 0), (3, 0), (), ((0, 2), (2, 0)), ((1, 1),), True, False]
>>> [list_of(EVEN), list_of(PAIRS), list_of((2, 4, ((1, 1, 1, 1),))), is_full((2, 3, ((1, 0, 0), (0, 1, 1)))), words_over(EVEN, (0, 2)), words_over(PAIRS, (1, 0))]
[((0, 1), (1, 2), (2, 3), (3, 0)), ((0, 2), (1, 3), (2, 0), (3, 1)), ((0, 3), (1, 0), (2, 1), (3, 2)), False, ((1, 0, 1, 0),), ((1, 1, 1, 1),)]
>>> list_of((2, 3, ((1, 0, 0), (0, 1, 1))))
raises NotFull
"""

MAKINGS = """
>>> from roundstairs.makings import is_making, making_sizes, marks_of, round_by, stair_of
>>> EVEN = (2, 4, ((1, 0, 0, 1), (0, 1, 0, 1), (0, 0, 1, 1)))
>>> PASS = ((1, 0, 1), (0, 1, 1))
>>> MAKING = (((1, 1, 0, 0), (0, 1)), ((0, 1, 1, 0), (1, 2)), ((0, 0, 1, 1), (2, 3)))
>>> [is_making(EVEN, MAKING), is_making(EVEN, MAKING[:2]), making_sizes(EVEN, MAKING), stair_of(EVEN, MAKING), marks_of(EVEN, MAKING, (1, 0, 0, 1)), round_by(EVEN, MAKING, (1, 0, 0, 1))]
[True, False, (0, 1, 1, 1), (2, (0, 1, 1, 1), (((1, 1),), ((1, 0, 1), (0, 1, 1)), ((1, 0, 1), (0, 1, 1)), ((1, 1),))), (1, 1, 1), (((), (1,), (1,), (1,)), (1, 0, 0, 1))]
>>> making_sizes(EVEN, MAKING[:2] + (((0, 0, 1, 1), (3, 2)),))
(1, 2, 2, 0)
"""

LEAST = """
>>> from roundstairs.least import fewest_greatest, fewest_sum, judge_least, judge_rows, least_holds, least_sizes, making_below, rows_hold
>>> EVEN = (2, 4, ((1, 0, 0, 1), (0, 1, 0, 1), (0, 0, 1, 1)))
>>> PAIRS = (2, 4, ((1, 0, 1, 0), (0, 1, 0, 1)))
>>> PASS = ((1, 0, 1), (0, 1, 1))
>>> ROUND = (2, (1, 1, 1, 1), (PASS, PASS, PASS, PASS))
>>> [judge_rows(PAIRS, ((0, 2), (2, 0))), judge_rows(PAIRS, ((0, 2), (1, 3))), rows_hold(EVEN, ((3, 0),), ('rows', ((1, 0, 0, 1),))), least_sizes(EVEN), least_sizes(PAIRS)]
[('tight', (0, 1)), ('rows', ((1, 0, 1, 0), (0, 1, 0, 1))), True, ((0, 1, 1, 1), (1, 0, 1, 1), (1, 1, 0, 1), (1, 1, 1, 0)), ((0, 1, 2, 1), (1, 0, 1, 2), (1, 2, 1, 0), (2, 1, 0, 1))]
>>> [fewest_greatest(PAIRS), fewest_sum(EVEN), judge_least(ROUND)[0], least_holds(ROUND, ('lesser', (((1, 1, 0, 0), (0, 1)), ((0, 1, 1, 0), (1, 2)), ((0, 0, 1, 1), (2, 3))))), making_below(EVEN, (0, 0, 9, 9))]
[2, 3, 'lesser', True, None]
"""

APART = """
>>> from roundstairs.apart import apart_holds, judge_apart, stair_stretches, trimmed
>>> LAID = (2, (0, 1, 1), (((1, 1),), ((1, 0, 1), (0, 1, 1)), ((1, 1),)))
>>> CUT = (2, (0, 1, 1), (((1, 0),), ((1, 0, 1), (0, 1, 1)), ((1, 1),)))
>>> [stair_stretches(LAID), apart_holds(LAID, ('apart', (((0, 1), ((), (1,), (0,)), (1, 1, 0)), ((1, 2), ((), (0,), (1,)), (0, 1, 1))))), apart_holds(LAID, ('apart', (((0, 1), ((), (1,), (0,)), (1, 1, 0)), ((0, 2), ((), (1,), (1,)), (1, 0, 1)))))]
[((0, 1), (1, 2)), True, False]
>>> [apart_holds(CUT, ('room', 1, (1,))), judge_apart(CUT)[0] in ('room', 'step'), trimmed(CUT), trimmed(LAID) == LAID]
[True, True, (2, (0, 0, 1), (((1,),), ((1, 1),), ((1, 1),))), True]
"""

PARTNERS = """
>>> from roundstairs.partners import dimensions, is_joined, partner_stair
>>> LAID = (2, (0, 1, 1), (((1, 1),), ((1, 0, 1), (0, 1, 1)), ((1, 1),)))
>>> RING = (2, (1, 1, 1), (((1, 0, 1), (0, 1, 1)), ((1, 0, 1), (0, 1, 1)), ((1, 0, 1), (0, 1, 1))))
>>> [partner_stair(LAID), dimensions(LAID), is_joined(LAID), dimensions(RING), is_joined(RING), dimensions(partner_stair(RING))]
[(2, (0, 1, 1), (((1, 1),), ((1, 1, 1),), ((1, 1),))), (2, 0), True, (3, 1), True, (1, 0)]
"""

CHANGES = """
>>> from roundstairs.changes import cover, cut_bound, renamed, turned
>>> LAID = (2, (0, 1, 1), (((1, 1),), ((1, 0, 1), (0, 1, 1)), ((1, 1),)))
>>> FIVE = (5, (0, 1), (((1, 1),), ((1, 1),)))
>>> [turned(LAID, 1), renamed(FIVE, ((), ((2,),))), cover(FIVE, 2)[1]]
[(2, (1, 1, 0), (((1, 0, 1), (0, 1, 1)), ((1, 1),), ((1, 1),))), (5, (0, 1), (((1, 2),), ((1, 3),))), (0, 1, 0, 1)]
>>> [cut_bound((2, 3, ((1, 0, 1), (0, 1, 1))), 0, 1), cut_bound((2, 3, ((1, 0, 1), (0, 1, 1))), 1, 2)]
[1, 1]
"""

NEAREST = """
>>> from roundstairs.nearest import judge_nearest, mark_prices, nearest_holds, nearest_words, price_of
>>> LAID = (2, (0, 1, 1), (((1, 1),), ((1, 0, 1), (0, 1, 1)), ((1, 1),)))
>>> COINS = ((0, 3), (0, 1), (2, 0))
>>> [nearest_words(LAID, COINS), price_of(LAID, COINS, (1, 1, 0)), mark_prices(LAID, COINS), nearest_holds(LAID, COINS, ('nearest', (0, 1, 1), (((0,), (0, 3), (0, 1), (1,)),))), judge_nearest(LAID, COINS)[:2]]
[((0, 1, 1),), 6, ((1, 3), (2, 1), (2, 1)), True, ('nearest', (0, 1, 1))]
"""

TURNS = """
>>> from roundstairs.turns import fewest_turns, is_long_round, judge_turns, least_mean, mean_holds, turns_hold
>>> LAID = (2, (0, 1, 1), (((1, 1),), ((1, 0, 1), (0, 1, 1)), ((1, 1),)))
>>> RING = (2, (1, 1, 1), (((1, 0, 1), (0, 1, 1)), ((1, 0, 1), (0, 1, 1)), ((1, 0, 1), (0, 1, 1))))
>>> DEAR = ((0, -2), (0, 9), (0, 9))
>>> TWICE = (((0,), (1,), (1,), (1,), (0,), (0,)), (1, 0, 0, 1, 0, 0))
>>> [is_long_round(RING, TWICE), least_mean(RING, DEAR), least_mean(LAID, DEAR), fewest_turns(RING, DEAR), judge_turns(RING, DEAR)[0], judge_turns(LAID, DEAR)[:2]]
[True, (-2, 1), (0, 1), 2, 'round', ('word', (0, 0, 0))]
>>> [mean_holds(RING, DEAR, ('mean', (-2, 1)) + TWICE + (((0, 0), (-2, -2), (-2, -2)),)), turns_hold(RING, DEAR, ('round',) + TWICE)]
[True, True]
"""


class ExamplesTest(unittest.TestCase):

    def run_text(self, text):
        """Run the lines behind the prompts and compare each answer that is told."""
        names = {}
        answered = 0
        lines = text.strip().split("\n")
        for at, line in enumerate(lines):
            if not line.startswith(">>> "):
                continue
            answer = lines[at + 1] if at + 1 < len(lines) else ""
            if answer == "" or answer.startswith(">>> "):
                exec(line[4:], names)
                continue
            answered += 1
            if answer.startswith("raises "):
                self.check_error(line[4:], answer, names)
            else:
                self.assertEqual(repr(eval(line[4:], names)), answer)
        self.assertGreater(answered, 0)

    def check_error(self, code, answer, names):
        name, attribute, value = re.fullmatch(r"raises (\w+)(?:\((\w+)=(.*)\))?", answer).groups()
        with self.assertRaises(errors.StairError) as caught:
            eval(code, names)
        self.assertIs(type(caught.exception), getattr(errors, name))
        told = {} if attribute is None else {attribute: value}
        self.assertEqual({key: repr(thing) for key, thing in vars(caught.exception).items()}, told)

    def test_books(self):
        self.run_text(BOOKS)

    def test_stairs(self):
        self.run_text(STAIRS)

    def test_stretches(self):
        self.run_text(STRETCHES)

    def test_makings(self):
        self.run_text(MAKINGS)

    def test_least(self):
        self.run_text(LEAST)

    def test_apart(self):
        self.run_text(APART)

    def test_partners(self):
        self.run_text(PARTNERS)

    def test_changes(self):
        self.run_text(CHANGES)

    def test_nearest(self):
        self.run_text(NEAREST)

    def test_turns(self):
        self.run_text(TURNS)

    def test_readme(self):
        readme = pathlib.Path(__file__).parent.parent / "README.md"
        texts = re.findall(r"```\n(>>> .*?)```", readme.read_text(encoding="utf-8"), re.DOTALL)
        self.assertEqual(len(texts), 1)
        self.run_text(texts[0])
