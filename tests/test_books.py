"""Part 1: [1.1] rows, [1.2] books, [1.3] within."""

import unittest
from itertools import combinations

from roundstairs.books import book_of, dimension, has_word, is_book, partner_of, within, words_of
from roundstairs.errors import BadBook, BadField, BadLength, BadPlaces, BadRow
from tests import oracles
from tests.samples import EVEN, PAIRS, any_values, largest_books, mangled, some_books, some_rows, whole


class RowsTest(unittest.TestCase):
    """[1.1]"""

    def test_plain_and_not_plain_tuples(self):
        for basis in ((), ((1, 0, 2),), ((0, 0, 1),), ((1, 2, 0), (0, 0, 1)), ((1, 0, 1), (0, 1, 1))):
            self.assertIs(is_book((3, 3, basis)), True)
        not_plain = {
            "noughts": ((0, 0, 0),),
            "noughts behind a row": ((1, 0, 2), (0, 0, 0)),
            "a first mark that is not 1": ((2, 0, 1),),
            "a first mark that is not further behind": ((0, 1, 0), (1, 0, 0)),
            "two first marks at one place": ((1, 0, 1), (1, 0, 1)),
            "a mark behind another row's first mark": ((1, 1, 0), (0, 1, 1)),
            "a mark that is too great": ((1, 3, 0),),
            "a mark below 0": ((1, -1, 0),),
            "a bool": ((True, 0, 0),),
            "a false one": ((1, False, 0),),
            "a list of rows": [(1, 0, 0)],
            "a row that is a list": ([1, 0, 0],),
            "too few marks": ((1, 0),),
            "too many marks": ((1, 0, 0, 0),),
        }
        for why, basis in not_plain.items():
            with self.subTest(why):
                self.assertIs(is_book((3, 3, basis)), False)
                with self.assertRaises(BadBook):
                    dimension((3, 3, basis))

    def test_all_pairs_of_rows(self):
        for q, n in ((2, 3), (3, 2)):
            for row in oracles.all_rows(q, n):
                for other in oracles.all_rows(q, n):
                    for basis in ((row,), (row, other), (row, other, row)):
                        self.assertIs(is_book((q, n, basis)), oracles.is_plain(q, n, basis))


class BooksTest(unittest.TestCase):
    """[1.2]"""

    def test_lengths_and_fields(self):
        for n in range(-1, 15):
            for q in range(-1, 8):
                right = q in (2, 3, 5) and 2 <= n <= 12
                self.assertIs(is_book((q, n, ())), right)
        for thing in ((True, 2, ()), (2, True, ()), (2.0, 2, ()), ("2", 2, ()), (2, None, ()), (2, 2), (2, 2, (), ()),
                      [2, 2, ()]):
            self.assertIs(is_book(thing), False)

    def test_mangled_books(self):
        for book in (EVEN, PAIRS, (3, 2, ((1, 2),)), (5, 3, ((1, 0, 4), (0, 1, 3))), (2, 2, ())):
            for thing in mangled(book):
                self.assertIs(is_book(thing), oracles.is_book(thing))

    def test_book_of_has_the_plain_basis(self):
        for q, n, rows in some_rows():
            self.assertEqual(book_of(q, n, rows), (q, n, oracles.plain(q, n, rows)))

    def test_book_of_all_words_is_the_book(self):
        for book in some_books() + largest_books():
            q, n, basis = book
            self.assertEqual(book_of(q, n, words_of(book)), book)
            self.assertEqual(book_of(q, n, tuple(reversed(basis))), book)

    def test_book_of_orders_its_errors(self):
        for arguments, error, thing in (
                ((4, 1, [1]), BadField, 4), ((True, 1, [1]), BadField, True), ((2, 1, [1]), BadLength, 1),
                ((2, 13, [1]), BadLength, 13), ((2, True, ()), BadLength, True), ((2, 2, [(1, 0)]), BadRow, [(1, 0)]),
                ((2, 2, ((1, 0), (True, 0), (2, 2))), BadRow, (True, 0)), ((2, 2, ([1, 0],)), BadRow, [1, 0]),
                ((3, 2, ((1, 2), (1, 3))), BadRow, (1, 3)), ((2, 2, ((1, 0, 0),)), BadRow, (1, 0, 0))):
            with self.assertRaises(error) as caught:
                book_of(*arguments)
            self.assertEqual(repr(caught.exception.thing), repr(thing))

    def test_words_and_dimension(self):
        for book in some_books():
            words = words_of(book)
            self.assertEqual(words, tuple(sorted(oracles.words(book))))
            self.assertEqual(dimension(book), len(book[2]))
            self.assertEqual(len(words), book[0] ** dimension(book))

    def test_has_word(self):
        for book in some_books():
            q, n, _ = book
            words = oracles.words(book)
            for row in oracles.all_rows(q, n):
                self.assertIs(has_word(book, row), row in words)

    def test_partner_meets_all_words_in_0(self):
        for book in some_books():
            q, n, basis = book
            partner = partner_of(book)
            self.assertTrue(oracles.is_book(partner))
            self.assertEqual(oracles.words(partner), oracles.partner_words(q, n, basis))
            self.assertEqual(dimension(partner), n - dimension(book))
            self.assertEqual(partner_of(partner), book)

    def test_the_largest_books(self):
        for book in largest_books():
            q, n, basis = book
            self.assertIs(is_book(book), True)
            self.assertEqual(len(words_of(book)), q ** len(basis))
            partner = partner_of(book)
            self.assertEqual(len(partner[2]), n - len(basis))
            for row in partner[2]:
                for other in basis:
                    self.assertEqual(oracles.meet(q, row, other), 0)
            self.assertEqual(within(book, tuple(range(n))), book)

    def test_dimensions_0_and_n(self):
        for q in (2, 3, 5):
            for n in range(2, 13):
                none, everything = (q, n, ()), whole(q, n)
                self.assertEqual(partner_of(none), everything)
                self.assertEqual(partner_of(everything), none)
                self.assertEqual(words_of(none), ((0,) * n,))
                self.assertEqual((dimension(none), dimension(everything)), (0, n))
                self.assertIs(has_word(everything, (q - 1,) * n), True)
                self.assertIs(has_word(none, (0,) * n), True)
                self.assertIs(has_word(none, (0,) * (n - 1) + (1,)), False)


class WithinTest(unittest.TestCase):
    """[1.3]"""

    def test_within_each_choice_of_places(self):
        for book in some_books():
            q, n, _ = book
            words = oracles.words(book)
            for count in range(n + 1):
                for places in combinations(range(n), count):
                    inner = {word for word in words if not any(word[p] for p in range(n) if p not in places)}
                    found = within(book, places)
                    self.assertTrue(oracles.is_book(found))
                    self.assertEqual(found[:2], (q, n))
                    self.assertEqual(oracles.words(found), inner)

    def test_no_places_and_all_places(self):
        for book in some_books() + largest_books():
            q, n, _ = book
            self.assertEqual(within(book, ()), (q, n, ()))
            self.assertEqual(within(book, tuple(range(n))), book)

    def test_wrong_places(self):
        for places in [(1, 0), (0, 0), (4,), (-1,), (True,), (0, True), [0], [], None, "", 0, (0, 1, 2, 3, 4), ("0",),
                       ((0,),), {}, {0: 1}, (0, None), (None,)]:
            with self.assertRaises(BadPlaces) as caught:
                within(EVEN, places)
            self.assertIs(caught.exception.thing, places)
            with self.assertRaises(BadBook) as caught:
                within(places, places)
            self.assertIs(caught.exception.thing, places)

    def test_any_value_as_places(self):
        for book in (EVEN, (3, 2, ((1, 2),)), (5, 3, ())):
            for value in any_values() + list(mangled((0, 1))):
                if oracles.is_places(book[1], value):
                    within(book, value)
                else:
                    with self.assertRaises(BadPlaces) as caught:
                        within(book, value)
                    self.assertIs(caught.exception.thing, value)
