"""Part 4: [4.1] makings, [4.2] their stairs."""

import unittest

from roundstairs.errors import BadBook, BadMaking, BadRow
from roundstairs.makings import is_making, making_sizes, marks_of, round_by, stair_of
from roundstairs.stairs import is_sharp, is_stair, is_trim, round_count, spelled, steps_of
from tests import oracles
from tests.samples import EVEN, MAKING, PAIRS, Dice, any_values, free_rows, mangled, some_books, whole


def some_makings():
    """(book, making) with words and stretches of all kinds, of the list or not, unlike or not."""
    dice = Dice(13)
    found = [(EVEN, MAKING), (EVEN, MAKING[::-1])]
    for book in some_books():
        q, n, basis = book
        for _ in range(2):
            making = []
            for marks in free_rows(dice, q, len(basis), len(basis)):
                word = tuple(sum(mark * row[at] for mark, row in zip(marks, basis)) % q for at in range(n))
                over = oracles.stretches_of(word)
                making.append((word, over[dice.throw(len(over))]))
            found.append((book, tuple(making)))
    return [(book, making) for book, making in found if max(oracles.sizes_over(book[1], [s for _, s in making])) <= 6]


class MakingsTest(unittest.TestCase):
    """[4.1]"""

    def test_makings(self):
        for book, making in some_makings():
            self.assertTrue(oracles.is_making(book, making))
            self.assertIs(is_making(book, making), True)
            self.assertIs(is_making(book, making[1:]), making == ())
            self.assertIs(is_making(book, tuple(reversed(making))), True)

    def test_what_a_making_has_to_be(self):
        right = (((1, 0, 1, 0), (2, 0)), ((0, 1, 0, 1), (1, 3)))
        self.assertIs(is_making(PAIRS, right), True)
        # The stretches may be alike, and need not be of the list.
        self.assertIs(is_making(PAIRS, (((1, 1, 1, 1), (0, 3)), ((1, 0, 1, 0), (0, 2)))), True)
        self.assertIs(is_making(EVEN, MAKING[:2] + (((1, 0, 0, 1), (3, 0)),)), True)
        self.assertIs(is_making(EVEN, (((1, 1, 1, 1), (1, 0)), ((1, 1, 0, 0), (1, 0)), ((1, 0, 0, 1), (3, 0)))), True)
        wrong = {
            "too few": right[:1],
            "too many": right + right[:1],
            "not free": (right[0], ((1, 0, 1, 0), (0, 2))),
            "no word": (right[0], ((0, 1, 0, 0), (1, 1))),
            "noughts": (right[0], ((0, 0, 0, 0), (1, 1))),
            "a stretch that begins at 0": (right[0], ((0, 1, 0, 1), (2, 3))),
            "a stretch that ends at 0": (right[0], ((0, 1, 0, 1), (1, 0))),
            "a stretch that is too short": (right[0], ((0, 1, 0, 1), (1, 1))),
            "a stretch that begins and ends within": (right[0], ((1, 1, 1, 1), (1, 3))),
            "the stretch first": (right[0], ((1, 3), (0, 1, 0, 1))),
            "no stretch": (right[0], ((0, 1, 0, 1), ())),
            "a stretch that is a list": (right[0], ((0, 1, 0, 1), [1, 3])),
            "a bool in a stretch": (right[0], ((0, 1, 0, 1), (True, 3))),
            "a bool in a word": (right[0], ((0, True, 0, 1), (1, 3))),
            "a word that is a list": (right[0], ([0, 1, 0, 1], (1, 3))),
            "a pair that is a list": (right[0], [(0, 1, 0, 1), (1, 3)]),
            "three items": (right[0], ((0, 1, 0, 1), (1, 3), 0)),
            "a list": list(right),
        }
        for why, thing in wrong.items():
            with self.subTest(why):
                self.assertIs(is_making(PAIRS, thing), False)

    def test_mangled_makings(self):
        for book, making in ((EVEN, MAKING), (PAIRS, (((1, 0, 1, 0), (2, 0)), ((1, 1, 1, 1), (1, 0)))),
                             ((3, 2, ((1, 2),)), (((2, 1), (1, 0)),)), ((5, 3, ()), ())):
            for thing in list(mangled(making)) + any_values():
                self.assertIs(is_making(book, thing), oracles.is_making(book, thing))

    def test_sizes(self):
        for book, making in some_makings():
            self.assertEqual(making_sizes(book, making), oracles.sizes_over(book[1], [s for _, s in making]))

    def test_the_dimension_0(self):
        for q, n in ((2, 2), (3, 5), (5, 12)):
            self.assertIs(is_making((q, n, ()), ()), True)
            self.assertIs(is_making((q, n, ()), (((1,) * n, (0, n - 1)),)), False)
            self.assertEqual(making_sizes((q, n, ()), ()), (0,) * n)
            self.assertEqual(stair_of((q, n, ()), ()), (q, (0,) * n, ((),) * n))
            self.assertEqual(marks_of((q, n, ()), (), (0,) * n), ())
            self.assertEqual(round_by((q, n, ()), (), (0,) * n), (((),) * n, (0,) * n))

    def test_sizes_of_0(self):
        making = tuple((row, (at, at)) for at, row in enumerate(whole(3, 4)[2]))
        self.assertEqual(stair_of(whole(3, 4), making), (3, (0,) * 4, (((1,),),) * 4))


class StairsOfMakingsTest(unittest.TestCase):
    """[4.2]"""

    def test_rounds_are_those_that_the_document_lays(self):
        for book, making in some_makings():
            q, n, _ = book
            stair = stair_of(book, making)
            self.assertTrue(oracles.is_stair(stair))
            self.assertEqual(stair[:2], (q, oracles.sizes_over(n, [stretch for _, stretch in making])))
            laid = oracles.making_rounds(q, n, making)
            laps = oracles.rounds(stair)
            self.assertEqual(len(laps), len(laid))
            self.assertEqual(set(laps), set(laid))
            for place in range(n):
                self.assertEqual(steps_of(stair, place), tuple(sorted({oracles.lap_steps(lap)[place] for lap in laid})))

    def test_spells_the_book_trim_and_sharp(self):
        for book, making in some_makings():
            stair = stair_of(book, making)
            self.assertIs(is_stair(stair), True)
            self.assertEqual(spelled(stair), book)
            self.assertIs(is_trim(stair), True)
            self.assertIs(is_sharp(stair), True)
            self.assertEqual(round_count(stair), len(book[2]))

    def test_marks_and_rounds_by_words(self):
        for book, making in some_makings():
            q, n, _ = book
            for lap in oracles.making_rounds(q, n, making)[:60]:
                marks = marks_of(book, making, lap[1])
                self.assertEqual(oracles.making_round(q, n, making, marks), lap)
                self.assertEqual(round_by(book, making, lap[1]), lap)

    def test_the_order_of_the_pairs(self):
        turned = MAKING[1:] + MAKING[:1]
        self.assertEqual(marks_of(EVEN, turned, (1, 0, 1, 0)), (1, 0, 1))
        self.assertEqual(marks_of(EVEN, MAKING, (1, 0, 1, 0)), (1, 1, 0))
        making = (((1, 2, 0), (1, 0)), ((0, 1, 1), (2, 1)))
        self.assertEqual(making_sizes((3, 3, ((1, 0, 1), (0, 1, 1))), making), (2, 1, 1))
        self.assertEqual(marks_of((3, 3, ((1, 0, 1), (0, 1, 1))), making, (2, 2, 1)), (2, 1))
        self.assertEqual(
            round_by((3, 3, ((1, 0, 1), (0, 1, 1))), making, (2, 2, 1)), (((2, 1), (1,), (2,)), (2, 2, 1)))

    def test_errors_in_their_order(self):
        for making in [MAKING[:2], None, list(MAKING), (), MAKING + MAKING, (((1, True, 0, 0), (0, 1)),) + MAKING[1:]]:
            for call in (making_sizes, stair_of, lambda b, m: marks_of(b, m, None), lambda b, m: round_by(b, m, 0)):
                with self.assertRaises(BadMaking) as caught:
                    call(EVEN, making)
                self.assertIs(caught.exception.thing, making)
                with self.assertRaises(BadBook) as caught:
                    call(making, making)
                self.assertIs(caught.exception.thing, making)

    def test_rows_that_are_no_words(self):
        words = oracles.words(EVEN)
        wrong = [row for row in oracles.all_rows(2, 4) if row not in words]
        wrong += [(1, 1, 0), (1, 1, 0, 0, 0), (1, 1, 0, 2), (1, True, 0, 0), [1, 1, 0, 0], None, "1100", 0, ()]
        for row in wrong:
            for call in (marks_of, round_by):
                with self.assertRaises(BadRow) as caught:
                    call(EVEN, MAKING, row)
                self.assertIs(caught.exception.thing, row)
