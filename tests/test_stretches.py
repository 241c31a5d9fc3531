"""Part 3: [3.1] stretches, [3.2] full books, [3.3] the list."""

import unittest

from roundstairs.books import dimension, partner_of
from roundstairs.errors import BadBook, BadField, BadLength, BadRow, BadStretch, NotFull
from roundstairs.stretches import (
    does_lie_over, inner_times, is_full, is_stretch, list_of, places_in, stretches_of, words_over)
from tests import oracles
from tests.samples import (
    EVEN, PAIRS, any_values, full_books, largest_books, largest_full_books, mangled, not_full_books, some_books, whole)


class StretchesTest(unittest.TestCase):
    """[3.1]"""

    def test_is_stretch(self):
        for n in range(2, 13):
            for a in range(-1, n + 1):
                for b in range(-1, n + 1):
                    self.assertIs(is_stretch(n, (a, b)), 0 <= a < n and 0 <= b < n)
        for thing in ([0, 1], (0, True), (False, 0), (0,), (0, 1, 2), (), None, "01", 1, (0, None), ((0,), 1), {0: 1}):
            self.assertIs(is_stretch(4, thing), False)
        for thing in any_values() + list(mangled((0, 1))):
            self.assertIs(is_stretch(4, thing), oracles.is_stretch(4, thing))

    def test_places_and_inner_times(self):
        for n in range(2, 13):
            for stretch in oracles.all_stretches(n):
                self.assertEqual(places_in(n, stretch), oracles.places_in(n, stretch))
                self.assertEqual(inner_times(n, stretch), oracles.inner_times(n, stretch))

    def test_one_place_and_all_places(self):
        for n in range(2, 13):
            for a in range(n):
                self.assertEqual(places_in(n, (a, a)), (a,))
                self.assertEqual(inner_times(n, (a, a)), ())
                around = (a, (a - 1) % n)
                self.assertEqual(sorted(places_in(n, around)), list(range(n)))
                self.assertEqual(sorted(inner_times(n, around)), [time for time in range(n) if time != a])
        self.assertEqual(places_in(5, (3, 2)), (3, 4, 0, 1, 2))
        self.assertEqual(inner_times(5, (3, 2)), (4, 0, 1, 2))
        self.assertEqual(inner_times(5, (1, 3)), (2, 3))

    def test_stretches_of_each_row(self):
        for q, n in ((2, 2), (2, 5), (2, 7), (3, 4), (5, 3)):
            for row in oracles.all_rows(q, n):
                self.assertEqual(stretches_of(q, row), tuple(oracles.stretches_of(row)))
                for stretch in oracles.all_stretches(n):
                    self.assertIs(does_lie_over(q, row, stretch), oracles.is_over(row, stretch))

    def test_as_many_stretches_as_marks(self):
        for row in ((0,) * 12, (1,) * 12, (0,) * 11 + (4,), (0, 3, 0, 0, 1, 2) * 2, (0, 0), (2, 0)):
            told = stretches_of(5, row)
            self.assertEqual(len(told), len([mark for mark in row if mark != 0]))
            self.assertEqual(list(told), sorted(set(told)))
            for stretch in told:
                self.assertIs(does_lie_over(5, row, stretch), True)
        self.assertEqual(stretches_of(2, (0, 1, 0)), ((1, 1),))
        self.assertEqual(stretches_of(2, (0, 0, 0)), ())
        self.assertEqual(stretches_of(2, (1, 1)), ((0, 1), (1, 0)))
        self.assertEqual(stretches_of(3, (1, 0, 2, 1)), ((0, 3), (2, 0), (3, 2)))

    def test_wrong_rows_and_fields(self):
        for row in [(0,), (0,) * 13, (), (0, 2), (0, -1), (0, True), [0, 1], None, "01", 3, ((0,), 1), (0, None)]:
            for call in (stretches_of, lambda q, row: does_lie_over(q, row, None)):
                with self.assertRaises(BadRow) as caught:
                    call(2, row)
                self.assertIs(caught.exception.thing, row)
                with self.assertRaises(BadField) as caught:
                    call(4, row)
                self.assertEqual(caught.exception.thing, 4)

    def test_wrong_stretches(self):
        for stretch in [(0, 4), (4, 0), (-1, 0), (True, 0), (0, False), [0, 1], (0,), (0, 1, 2), (), None, 0, "01"]:
            for call in (places_in, inner_times):
                with self.assertRaises(BadStretch) as caught:
                    call(4, stretch)
                self.assertIs(caught.exception.thing, stretch)
            for call in (lambda stretch: does_lie_over(2, (0, 1, 1, 0), stretch),
                         lambda stretch: words_over(EVEN, stretch)):
                with self.assertRaises(BadStretch) as caught:
                    call(stretch)
                self.assertIs(caught.exception.thing, stretch)

    def test_wrong_lengths_come_first(self):
        for n in (1, 13, 0, -1, True, None, "4", (4,), [4]):
            for call in (is_stretch, places_in, inner_times):
                with self.assertRaises(BadLength) as caught:
                    call(n, [9])
                self.assertIs(caught.exception.thing, n)


class FullBooksTest(unittest.TestCase):
    """[3.2]"""

    def test_is_full(self):
        kinds = {}
        for book in some_books():
            kinds[oracles.is_full(book)] = True
            self.assertIs(is_full(book), oracles.is_full(book))
        self.assertEqual(len(kinds), 2)

    def test_full_and_not(self):
        for book in full_books() + largest_full_books():
            self.assertIs(is_full(book), True)
            self.assertIs(is_full(partner_of(book)), True)
        for book in not_full_books() + [(2, 12, ()), whole(2, 12), (5, 5, ()), whole(5, 5)]:
            self.assertIs(is_full(book), False)
            self.assertIs(is_full(partner_of(book)), False)

    def test_no_word_of_a_full_book_has_one_mark(self):
        for book in full_books():
            for word in oracles.words(book):
                self.assertNotEqual(len([mark for mark in word if mark != 0]), 1)


class ListTest(unittest.TestCase):
    """[3.3]"""

    def test_list_against_all_words(self):
        for book in full_books():
            self.assertEqual(list_of(book), tuple(oracles.stretch_list(book)))

    def test_shortest_at_both_ends(self):
        for book in full_books():
            _, n, _ = book
            lain = {stretch for word in oracles.words(book) for stretch in oracles.stretches_of(word)}
            for a, b in list_of(book):
                self.assertIn((a, b), lain)
                for other in lain:
                    if other[0] == a or other[1] == b:
                        length = len(oracles.places_in(n, other))
                        self.assertLessEqual(len(oracles.places_in(n, (a, b))), length)

    def test_ends_and_inner_times(self):
        for book in full_books() + largest_full_books():
            _, n, basis = book
            told = list_of(book)
            self.assertEqual([a for a, _ in told], list(range(n)))
            self.assertEqual(sorted(b for _, b in told), list(range(n)))
            self.assertEqual(oracles.sizes_over(n, told), (n - len(basis),) * n)

    def test_list_of_the_partner(self):
        for book in full_books() + largest_full_books():
            turned = tuple(sorted((b, a) for a, b in list_of(book)))
            self.assertEqual(list_of(partner_of(book)), turned)

    def test_words_over_each_stretch(self):
        for book in some_books():
            words = sorted(oracles.words(book))
            for stretch in oracles.all_stretches(book[1]):
                right = tuple(word for word in words if word[stretch[0]] == 1 and oracles.is_over(word, stretch))
                self.assertEqual(words_over(book, stretch), right)

    def test_words_over_are_of_any_book(self):
        self.assertEqual(words_over(whole(3, 3), (1, 1)), ((0, 1, 0),))
        self.assertEqual(words_over(whole(3, 3), (2, 0)), ((1, 0, 1), (2, 0, 1)))
        self.assertEqual(words_over((2, 12, ()), (3, 2)), ())
        self.assertEqual(len(words_over(whole(2, 12), (5, 4))), 2 ** 10)
        for book in largest_books():
            for stretch in ((0, 0), (1, 4), (4, 3)):
                for word in words_over(book, stretch):
                    self.assertTrue(oracles.is_over(word, stretch) and word[stretch[0]] == 1)

    def test_some_word_lies_over_each_stretch_of_the_list(self):
        for book in largest_full_books():
            for a, b in list_of(book):
                self.assertNotEqual(words_over(book, (a, b)), ())
                if a != b and a != (b - 1) % book[1]:
                    self.assertEqual(words_over(book, (a, (b - 1) % book[1])), ())

    def test_books_that_are_not_full(self):
        for book in not_full_books():
            with self.assertRaises(NotFull) as caught:
                list_of(book)
            self.assertEqual(vars(caught.exception), {})
        for function in (is_full, list_of, lambda book: words_over(book, None), dimension):
            for book in (None, [*EVEN], EVEN[:2], (4,) + PAIRS[1:], (2, 4, ((1, 1, 0, 0), (0, 1, 1, 0)))):
                with self.assertRaises(BadBook) as caught:
                    function(book)
                self.assertIs(caught.exception.thing, book)
