"""Answers come in good time, up to the limits that the document names."""

import time
import unittest

from roundstairs.apart import apart_holds, judge_apart, stair_stretches, trimmed
from roundstairs.changes import cover, cut_bound, renamed, turned
from roundstairs.least import (
    fewest_greatest, fewest_sum, judge_least, judge_rows, least_holds, least_sizes, making_below, rows_hold)
from roundstairs.makings import stair_of
from roundstairs.nearest import judge_nearest, mark_prices, nearest_holds, nearest_words, price_of
from roundstairs.partners import dimensions, is_joined, partner_stair
from roundstairs.stairs import judge_word, spelled, word_holds
from roundstairs.stretches import list_of, words_over
from roundstairs.turns import (
    fewest_turns, is_long_round, judge_mean, judge_turns, least_mean, mean_holds, turns_hold)
from tests import oracles
from tests.samples import (
    Dice, circling_stairs, largest_books, largest_full_books, largest_priced_stairs, largest_stairs,
    largest_told_stairs, some_prices, some_tables, whole)

# Seconds of the processor for one call; all calls take far less than one.
MOST = 5


class TimeTest(unittest.TestCase):

    def timed(self, function, *arguments):
        start = time.process_time()
        answer = function(*arguments)
        self.assertLess(time.process_time() - start, MOST, function.__name__)
        return answer

    def test_books(self):
        for book in largest_full_books():
            told = self.timed(list_of, book)
            for stretch in told:
                self.timed(words_over, book, stretch)
            lot = told[:len(book[2])]
            self.assertTrue(self.timed(rows_hold, book, lot, self.timed(judge_rows, book, lot)))
            sizes = self.timed(least_sizes, book)[0]
            self.timed(fewest_greatest, book)
            self.timed(fewest_sum, book)
            making = self.timed(making_below, book, sizes)
            self.timed(making_below, book, tuple(max(0, size - 1) for size in sizes))
            stair = self.timed(stair_of, book, making)
            self.assertTrue(self.timed(least_holds, stair, self.timed(judge_least, stair)))
        self.timed(words_over, whole(2, 12), (0, 11))

    def test_stairs(self):
        for stair in largest_stairs() + [stair for stair, _ in largest_told_stairs()]:
            told = self.timed(judge_apart, stair)
            self.assertTrue(self.timed(apart_holds, stair, told))
            if told[0] == "apart":
                self.timed(stair_stretches, stair)
            self.timed(trimmed, stair)
            book = self.timed(spelled, stair)
            row = (1,) * book[1]
            self.assertTrue(self.timed(word_holds, stair, row, self.timed(judge_word, stair, row)))
            if oracles.is_full(book) and book[1] <= 10:
                self.assertTrue(self.timed(least_holds, stair, self.timed(judge_least, stair)))

    def test_partners_and_changes(self):
        dice = Dice(101)
        for stair in largest_stairs() + largest_priced_stairs() + [stair for stair, _ in largest_told_stairs()]:
            q, sizes, _ = stair
            self.assertEqual(self.timed(partner_stair, self.timed(partner_stair, stair)), stair)
            self.timed(dimensions, stair)
            self.timed(is_joined, stair)
            self.timed(turned, stair, 10 ** 39)
            self.timed(renamed, stair, some_tables(dice, q, sizes))
            self.timed(cover, stair, 12 // len(sizes))
        for book in largest_books() + largest_full_books()[::5]:
            for s in range(book[1]):
                self.timed(cut_bound, book, s, s - 1 if s > 0 else 1)

    def test_nearest_words(self):
        dice = Dice(103)
        for stair in largest_priced_stairs():
            for prices in some_prices(dice, stair[0], len(stair[1])):
                told = self.timed(judge_nearest, stair, prices)
                self.assertTrue(self.timed(nearest_holds, stair, prices, told))
                self.timed(nearest_words, stair, prices)
                self.timed(mark_prices, stair, prices)
                self.timed(price_of, stair, prices, told[1])

    def test_turns(self):
        dice = Dice(105)
        largest = [(stair, prices) for stair in largest_priced_stairs()
                   for prices in some_prices(dice, stair[0], len(stair[1]))]
        for stair, prices in largest + circling_stairs():
            told = self.timed(judge_mean, stair, prices)
            self.assertTrue(self.timed(mean_holds, stair, prices, told))
            self.timed(least_mean, stair, prices)
            self.assertTrue(self.timed(turns_hold, stair, prices, self.timed(judge_turns, stair, prices)))
            self.timed(fewest_turns, stair, prices)
            # As many turns as any value has parts.
            kind, mean, rooms, word, heights = told
            m = 1500 // len(word)
            self.assertTrue(self.timed(is_long_round, stair, (rooms * m, word * m)))
            self.assertTrue(self.timed(mean_holds, stair, prices, (kind, mean, rooms * m, word * m, heights)))
