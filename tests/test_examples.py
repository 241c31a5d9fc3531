"""The examples of the document, word for word, with the answers that it gives."""

import pathlib
import re
import unittest

from roundstairs import errors

BOOKS = """
>>> from roundstairs.books import book_of, dimension, has_word, is_book, partner_of, within, words_of
>>> EVEN = (2, 4, ((1, 0, 0, 1), (0, 1, 0, 1), (0, 0, 1, 1)))
>>> PAIRS = (2, 4, ((1, 0, 1, 0), (0, 1, 0, 1)))
>>> [is_book(EVEN), is_book((2, 3, ((1, 1, 0), (0, 1, 1)))), book_of(2, 4, ((1, 1, 0, 0), (0, 1, 1, 0), (0, 0, 1, 1))) == EVEN, book_of(3, 2, ((2, 1),)), dimension(EVEN), words_of(PAIRS)]
[True, False, True, (3, 2, ((1, 2),)), 3, ((0, 0, 0, 0), (0, 1, 0, 1), (1, 0, 1, 0), (1, 1, 1, 1))]
>>> [partner_of(EVEN), partner_of(PAIRS) == PAIRS, within(EVEN, (0, 1, 2)), has_word(EVEN, (1, 1, 1, 0))]
[(2, 4, ((1, 1, 1, 1),)), True, (2, 4, ((1, 0, 1, 0), (0, 1, 1, 0))), False]
>>> book_of(2, 2, ((1, 2),))
raises BadRow(thing=(1, 2))
"""

STAIRS = """
>>> from roundstairs.stairs import is_round, is_sharp, is_stair, is_trim, judge_word, round_count, rooms_of, spelled, steps_of, word_holds
>>> EVEN = (2, 4, ((1, 0, 0, 1), (0, 1, 0, 1), (0, 0, 1, 1)))
>>> PASS = ((1, 0, 1), (0, 1, 1))
>>> OPEN, ROUND = (2, (0, 1, 1, 1), (((1, 1),), PASS, PASS, ((1, 1),))), (2, (1, 1, 1, 1), (PASS, PASS, PASS, PASS))
>>> [is_stair(OPEN), is_stair((2, (0, 1), (((1, 1),), ((1, 0),)))), spelled(OPEN) == EVEN, spelled(ROUND) == EVEN, round_count(OPEN), round_count(ROUND), is_sharp(OPEN), is_sharp(ROUND), is_trim(ROUND)]
[True, True, True, True, 3, 4, True, False, True]
>>> [rooms_of(OPEN, 0), rooms_of(OPEN, 1), steps_of(OPEN, 1), is_round(OPEN, (((), (1,), (0,), (0,)), (1, 1, 0, 0))), judge_word(OPEN, (1, 1, 0, 0)), word_holds(OPEN, (1, 0, 0, 0), ('against', (1, 1, 1, 1)))]
[((),), ((0,), (1,)), ((0, 0, 0), (0, 1, 1), (1, 0, 1), (1, 1, 0)), True, ('round', (((), (1,), (0,), (0,)), (1, 1, 0, 0))), True]
"""


class ExamplesTest(unittest.TestCase):

    def run_text(self, text):
        """Run the lines behind the prompts and compare each answer that is told."""
        names = {}
        answered = 0
        lines = text.strip().split("\n")
        for at, line in enumerate(lines):
            if not line.startswith(">>> "):
                continue
            answer = lines[at + 1] if at + 1 < len(lines) else ""
            if answer == "" or answer.startswith(">>> "):
                exec(line[4:], names)
                continue
            answered += 1
            if answer.startswith("raises "):
                self.check_error(line[4:], answer, names)
            else:
                self.assertEqual(repr(eval(line[4:], names)), answer)
        self.assertGreater(answered, 0)

    def check_error(self, code, answer, names):
        name, attribute, value = re.fullmatch(r"raises (\w+)\((\w+)=(.*)\)", answer).groups()
        with self.assertRaises(errors.StairError) as caught:
            eval(code, names)
        self.assertIs(type(caught.exception), getattr(errors, name))
        self.assertEqual(repr(getattr(caught.exception, attribute)), value)

    def test_books(self):
        self.run_text(BOOKS)

    def test_stairs(self):
        self.run_text(STAIRS)

    def test_readme(self):
        readme = pathlib.Path(__file__).parent.parent / "README.md"
        texts = re.findall(r"```\n(>>> .*?)```", readme.read_text(encoding="utf-8"), re.DOTALL)
        self.assertEqual(len(texts), 1)
        self.run_text(texts[0])
