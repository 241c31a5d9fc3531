"""[0.3]: the whole program together, one book through all parts."""

import unittest
from fractions import Fraction

from roundstairs.apart import apart_holds, judge_apart, stair_stretches, trimmed
from roundstairs.books import book_of, dimension, has_word, is_book, partner_of, within, words_of
from roundstairs.changes import cover, cut_bound, renamed, turned
from roundstairs.least import (
    fewest_greatest, fewest_sum, judge_least, judge_rows, least_holds, least_sizes, making_below, rows_hold)
from roundstairs.makings import is_making, making_sizes, round_by, stair_of
from roundstairs.nearest import judge_nearest, mark_prices, nearest_holds, nearest_words, price_of
from roundstairs.partners import dimensions, is_joined, partner_stair
from roundstairs.stairs import is_round, is_sharp, is_stair, is_trim, judge_word, spelled, word_holds
from roundstairs.stretches import does_lie_over, is_full, list_of, words_over
from roundstairs.turns import (
    fewest_turns, is_long_round, judge_mean, judge_turns, least_mean, mean_holds, turns_hold)
from tests import oracles
from tests.samples import Dice, some_prices, some_tables

# (q, n, rows) by 2, 3 and 5.
BOOKS = (
    (2, 7, ((1, 1, 0, 1, 0, 0, 0), (0, 1, 1, 0, 1, 0, 0), (0, 0, 1, 1, 0, 1, 0), (0, 0, 0, 1, 1, 0, 1))),
    (2, 8, ((1, 1, 1, 1, 0, 0, 0, 0), (0, 0, 1, 1, 1, 1, 0, 0), (0, 0, 0, 0, 1, 1, 1, 1), (0, 1, 0, 1, 1, 0, 1, 0))),
    (3, 4, ((1, 1, 1, 0), (0, 1, 2, 1))),
    (3, 5, ((1, 0, 2, 1, 0), (0, 1, 1, 0, 2), (1, 1, 1, 0, 1))),
    (5, 4, ((1, 2, 3, 4), (1, 4, 4, 1))),
)


def looser(stair):
    """A stair of the same book with one more mark to each room of the last time, which is 0 on all rounds."""
    q, sizes, sections = stair
    n = len(sizes)
    ahead = [row + (0,) for row in sections[n - 2]]
    size = sizes[n - 1]
    behind = [row[:size] + (0,) + row[size:] for row in sections[n - 1]]
    sizes = sizes[:n - 1] + (size + 1,)
    return (q, sizes, sections[:n - 2] + (tuple(ahead), tuple(behind)))


class WholeTest(unittest.TestCase):

    def setUp(self):
        self.books = [book_of(*parts) for parts in BOOKS]

    def least_stairs(self, book):
        return [stair_of(book, making_below(book, sizes)) for sizes in least_sizes(book)]

    def prices_for(self, book):
        return some_prices(Dice(91), book[0], book[1])

    def test_books_and_partners(self):
        for book in self.books:
            self.assertIs(is_book(book), True)
            self.assertIs(is_full(book), True)
            partner = partner_of(book)
            self.assertEqual(dimension(book) + dimension(partner), book[1])
            self.assertEqual(partner_of(partner), book)
            self.assertEqual(set(words_of(book)), oracles.words(book))
            self.assertEqual(within(book, tuple(range(book[1]))), book)
            self.assertEqual(list_of(partner), tuple(sorted((b, a) for a, b in list_of(book))))

    def test_a_row_is_spelled_or_barred(self):
        dice = Dice(93)
        for book in self.books:
            q, n, _ = book
            for stair in self.least_stairs(book)[:3]:
                for row in [dice.row(q, n) for _ in range(30)] + list(words_of(book)[:30]):
                    told = judge_word(stair, row)
                    self.assertIs(word_holds(stair, row, told), True)
                    self.assertEqual(told[0] == "round", has_word(book, row))
                    if told[0] == "against":
                        other = judge_word(partner_stair(stair), told[1])
                        self.assertEqual(other[0], "round")
                        self.assertIs(is_round(partner_stair(stair), other[1]), True)

    def test_a_lot_has_free_words_or_too_few(self):
        for book in self.books:
            n, k = book[1], dimension(book)
            kinds = {}
            for lot in ([s for at, s in enumerate(list_of(book)) if (code >> at) % 2] for code in range(2 ** n)):
                if len(lot) == k:
                    told = judge_rows(book, tuple(lot))
                    self.assertIs(rows_hold(book, tuple(lot), told), True)
                    kinds[told[0]] = True
                    if told[0] == "rows":
                        making = tuple(zip(told[1], lot))
                        self.assertIs(is_making(book, making), True)
                        self.assertTrue(all(does_lie_over(book[0], word, stretch) for word, stretch in making))
                        self.assertTrue(any(all(a <= b for a, b in zip(sizes, making_sizes(book, making)))
                                            for sizes in least_sizes(book)))
            self.assertIn("rows", kinds)
            self.assertTrue(all(words_over(book, stretch) for stretch in list_of(book)))

    def test_a_stair_is_least_or_a_lesser_one_is_told(self):
        for book in self.books:
            for stair in self.least_stairs(book):
                self.assertEqual(judge_least(stair), ("least",))
                self.assertLessEqual(fewest_greatest(book), max(stair[1]))
                self.assertLessEqual(fewest_sum(book), sum(stair[1]))
                more = looser(stair)
                told = judge_least(more)
                self.assertEqual(told[0], "lesser")
                self.assertIs(least_holds(more, told), True)
                self.assertIs(least_holds(more, ("least",)), False)
                self.assertEqual(spelled(stair_of(book, told[1])), book)

    def test_a_stair_falls_into_words_or_a_room_or_a_step_is_on_no_round(self):
        for book in self.books:
            for stair in self.least_stairs(book):
                told = judge_apart(stair)
                self.assertEqual(told[0], "apart")
                self.assertIs(apart_holds(stair, told), True)
                self.assertEqual(len(told[1]), dimension(book))
                lot = stair_stretches(stair)
                self.assertEqual(judge_rows(book, lot)[0], "rows")
                more = looser(stair)
                self.assertIs(is_trim(more), False)
                self.assertIn(judge_apart(more)[0], ("room", "step"))
                self.assertIs(apart_holds(more, judge_apart(more)), True)
                self.assertEqual(trimmed(more), stair)

    def test_the_partner_stair_spells_the_partner(self):
        for book in self.books:
            for stair in self.least_stairs(book):
                for some in (stair, looser(stair), turned(stair, 2), cover(stair, 1)):
                    other = partner_stair(some)
                    self.assertEqual(spelled(other), partner_of(spelled(some)))
                    self.assertEqual(partner_stair(other), some)
                    self.assertEqual(is_joined(other), is_sharp(some))
                    self.assertEqual(is_sharp(other), is_joined(some))
                self.assertEqual(dimensions(stair), (dimension(book), 0))
                self.assertEqual(judge_least(partner_stair(stair)), ("least",))
                self.assertEqual(judge_least(partner_stair(looser(stair)))[0], "lesser")

    def test_changed_stairs_of_a_book(self):
        dice = Dice(95)
        for book in self.books:
            q, n, _ = book
            for stair in self.least_stairs(book):
                other = renamed(stair, some_tables(dice, q, stair[1]))
                self.assertIs(is_stair(other), True)
                self.assertEqual(spelled(other), book)
                self.assertEqual(judge_least(other), ("least",))
                self.assertEqual(stair_stretches(other), stair_stretches(stair))
                moved = turned(stair, 1)
                self.assertEqual(words_of(spelled(moved)),
                                 tuple(sorted(word[1:] + word[:1] for word in words_of(book))))
                self.assertEqual(judge_least(moved), ("least",))
                for s in range(n):
                    for t in range(s):
                        self.assertGreaterEqual(stair[1][s] + stair[1][t], cut_bound(book, s, t))
                        self.assertEqual(cut_bound(book, s, t), cut_bound(partner_of(book), t, s))

    def test_a_word_is_nearest_for_all_prices(self):
        for book in self.books:
            for prices in self.prices_for(book):
                right = oracles.nearest(prices, words_of(book))
                for stair in self.least_stairs(book)[:4]:
                    for some in (stair, looser(stair)):
                        told = judge_nearest(some, prices)
                        self.assertIs(nearest_holds(some, prices, told), True)
                        self.assertIn(told[1], right)
                        self.assertEqual(nearest_words(some, prices), right)
                        self.assertEqual(price_of(some, prices, told[1]),
                                         min(price for price in mark_prices(some, prices)[0] if price is not None))

    def test_a_mean_over_several_turns_is_least(self):
        for book in self.books:
            n = book[1]
            for prices in self.prices_for(book):
                for stair in self.least_stairs(book)[:4]:
                    told = judge_mean(stair, prices)
                    self.assertIs(mean_holds(stair, prices, told), True)
                    self.assertIs(is_long_round(stair, told[2:4]), True)
                    going = judge_turns(stair, prices)
                    self.assertIs(turns_hold(stair, prices, going), True)
                    least = price_of(stair, prices, nearest_words(stair, prices)[0])
                    self.assertLessEqual(Fraction(*least_mean(stair, prices)), least)
                    m = fewest_turns(stair, prices)
                    self.assertEqual(m == 1, going[0] == "word")
                    if m * n <= 12:
                        self.assertIs(is_round(cover(stair, m), told[2:4]), True)

    def test_rounds_of_makings_are_long_rounds(self):
        for book in self.books:
            making = making_below(book, (9,) * book[1])
            stair = stair_of(book, making)
            for word in words_of(book)[:20]:
                rooms, row = round_by(book, making, word)
                self.assertEqual(row, word)
                self.assertIs(is_long_round(stair, (rooms * 3, row * 3)), True)
