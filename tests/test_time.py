"""Answers come in good time, up to the limits that the document names."""

import time
import unittest

from roundstairs.apart import apart_holds, judge_apart, stair_stretches, trimmed
from roundstairs.least import (
    fewest_greatest, fewest_sum, judge_least, judge_rows, least_holds, least_sizes, making_below, rows_hold)
from roundstairs.makings import stair_of
from roundstairs.stairs import judge_word, spelled, word_holds
from roundstairs.stretches import list_of, words_over
from tests import oracles
from tests.samples import largest_full_books, largest_stairs, largest_told_stairs, whole

# Seconds of the processor for one call; all calls take far less than one.
MOST = 5


class TimeTest(unittest.TestCase):

    def timed(self, function, *arguments):
        start = time.process_time()
        answer = function(*arguments)
        self.assertLess(time.process_time() - start, MOST, function.__name__)
        return answer

    def test_books(self):
        for book in largest_full_books():
            told = self.timed(list_of, book)
            for stretch in told:
                self.timed(words_over, book, stretch)
            lot = told[:len(book[2])]
            self.assertTrue(self.timed(rows_hold, book, lot, self.timed(judge_rows, book, lot)))
            sizes = self.timed(least_sizes, book)[0]
            self.timed(fewest_greatest, book)
            self.timed(fewest_sum, book)
            making = self.timed(making_below, book, sizes)
            self.timed(making_below, book, tuple(max(0, size - 1) for size in sizes))
            stair = self.timed(stair_of, book, making)
            self.assertTrue(self.timed(least_holds, stair, self.timed(judge_least, stair)))
        self.timed(words_over, whole(2, 12), (0, 11))

    def test_stairs(self):
        for stair in largest_stairs() + [stair for stair, _ in largest_told_stairs()]:
            told = self.timed(judge_apart, stair)
            self.assertTrue(self.timed(apart_holds, stair, told))
            if told[0] == "apart":
                self.timed(stair_stretches, stair)
            self.timed(trimmed, stair)
            book = self.timed(spelled, stair)
            row = (1,) * book[1]
            self.assertTrue(self.timed(word_holds, stair, row, self.timed(judge_word, stair, row)))
            if oracles.is_full(book) and book[1] <= 10:
                self.assertTrue(self.timed(least_holds, stair, self.timed(judge_least, stair)))
