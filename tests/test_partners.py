"""Part 7: [7.1] place by place, [7.2] what it spells, [7.3] sharp and joined; and a sentence of [0.3]."""

import unittest

from roundstairs.books import partner_of
from roundstairs.errors import BadStair
from roundstairs.least import judge_least, least_sizes, making_below
from roundstairs.makings import stair_of
from roundstairs.partners import dimensions, is_joined, partner_stair
from roundstairs.stairs import is_sharp, is_trim, judge_word, round_count, spelled, word_holds
from tests import oracles
from tests.samples import (
    BARE, CUT, EVEN, FIVE, LAID, MAKING, OPEN, PASS, RING, ROUND, SPARE, STILL, TWICE, any_values, full_books,
    largest_stairs, largest_told_stairs, mangled, some_stairs, told_stairs)


def every_stair():
    laid = told_stairs() + largest_told_stairs()
    return [RING] + some_stairs() + largest_stairs() + [stair for stair, _ in laid]


def row_count(stair):
    return sum(len(section) for section in stair[2])


class PlaceByPlaceTest(unittest.TestCase):
    """[7.1]"""

    def test_all_triples_of_small_sections(self):
        count = 0
        for stair in some_stairs() + [stair for stair, _ in told_stairs()[::3]]:
            q, sizes, _ = stair
            found = partner_stair(stair)
            self.assertTrue(oracles.is_stair(found))
            self.assertEqual(found[:2], (q, sizes))
            for place in range(len(sizes)):
                width = oracles.width(sizes, place)
                if q ** width <= 260:
                    count += 1
                    right = oracles.partner_steps(stair, place)
                    self.assertEqual(oracles.sums(q, width, found[2][place]), right)
                    self.assertEqual(found[2][place], oracles.plain(q, width, sorted(right)))
        self.assertGreater(count, 200)

    def test_the_rooms_behind_count_against(self):
        # By 3, (u, m, w) with u + m - 2 w = 0, so that u = 2 m + 2 w.
        stair = (3, (1, 1), (((1, 1, 2),), ()))
        self.assertEqual(partner_stair(stair)[2][0], ((1, 0, 2), (0, 1, 2)))
        # By 5, m - w = 0 behind, and u + 2 m = 0.
        self.assertEqual(partner_stair(FIVE), (5, (0, 1), (((1, 1),), ((1, 4),))))
        self.assertEqual(partner_stair((5, (0, 1), (((1, 2),), ((1, 2),)))), (5, (0, 1), (((1, 3),), ((1, 2),))))

    def test_how_many_rows(self):
        for stair in every_stair():
            _, sizes, sections = stair
            found = partner_stair(stair)
            for place, section in enumerate(sections):
                self.assertEqual(len(found[2][place]), oracles.width(sizes, place) - len(section))

    def test_sections_without_rows_and_sizes_of_0(self):
        self.assertEqual(partner_stair(STILL), (5, (0, 0, 0), (((1,),), (), ((1,),))))
        self.assertEqual(partner_stair((2, (0, 0), ((), ()))), (2, (0, 0), (((1,),), ((1,),))))
        units = ((1, 0, 0), (0, 1, 0), (0, 0, 1))
        self.assertEqual(partner_stair(BARE), (3, (0, 2), (units, units)))
        self.assertEqual(partner_stair((3, (0, 2), (units, units))), BARE)

    def test_bad_stairs(self):
        for stair in any_values() + list(mangled(OPEN)):
            if not oracles.is_stair(stair):
                for call in (partner_stair, is_joined, dimensions):
                    with self.assertRaises(BadStair) as caught:
                        call(stair)
                    self.assertIs(caught.exception.thing, stair)


class SpelledTest(unittest.TestCase):
    """[7.2]"""

    def test_spells_the_partner(self):
        for stair in every_stair():
            self.assertEqual(spelled(partner_stair(stair)), partner_of(spelled(stair)))

    def test_spells_the_partner_by_going_round(self):
        for stair in some_stairs():
            q, sizes, _ = stair
            if q ** sum(sizes) <= 16:
                spoken = {word for _, word in oracles.rounds(stair)}
                heard = {word for _, word in oracles.rounds(partner_stair(stair))}
                self.assertEqual(heard, oracles.partner_words(q, len(sizes), spoken))

    def test_rows_that_bar_are_spelled_by_the_partner_stair(self):
        for stair in some_stairs():
            q, sizes, _ = stair
            for row in oracles.all_rows(q, len(sizes)):
                kind, told = judge_word(stair, row)
                if kind == "against":
                    other = partner_stair(stair)
                    self.assertIs(word_holds(other, told, judge_word(other, told)), True)
                    self.assertEqual(judge_word(other, told)[0], "round")

    def test_the_partner_stair_of_the_partner_stair(self):
        kinds = {}
        for stair in every_stair():
            self.assertEqual(partner_stair(partner_stair(stair)), stair)
            kinds[(is_trim(stair), is_trim(partner_stair(stair)))] = True
        self.assertEqual(len(kinds), 4)

    def test_least_exactly_if_the_partner_stair_is(self):
        kinds = {}
        laid = [stair_of(book, making_below(book, sizes)) for book in full_books()[::3] for sizes in least_sizes(book)]
        for stair in [OPEN, ROUND, LAID, RING] + laid + [stair for stair, _ in told_stairs()]:
            if oracles.is_full(spelled(stair)):
                told = judge_least(stair)[0]
                self.assertEqual(judge_least(partner_stair(stair))[0], told)
                kinds[told] = kinds.get(told, 0) + 1
        self.assertEqual(sorted(kinds), ["least", "lesser"])
        self.assertGreater(min(kinds.values()), 3)

    def test_least_sizes_of_the_partner(self):
        for book in full_books():
            self.assertEqual(least_sizes(partner_of(book)), least_sizes(book))
        self.assertEqual(partner_stair(stair_of(EVEN, MAKING)), (2, (0, 1, 1, 1), (
            ((1, 1),), ((1, 1, 1),), ((1, 1, 1),), ((1, 1),))))


class SharpAndJoinedTest(unittest.TestCase):
    """[7.3]"""

    def test_dimensions_by_going_round(self):
        for stair in [RING] + some_stairs() + [stair for stair, _ in told_stairs()]:
            laps = oracles.rounds(stair)
            self.assertEqual(dimensions(stair), oracles.dimensions(stair[0], laps))
            self.assertEqual(round_count(stair), dimensions(stair)[0])

    def test_the_book_has_the_rows_that_are_left(self):
        for stair in every_stair():
            count, silent = dimensions(stair)
            self.assertEqual(len(spelled(stair)[2]), count - silent)
            self.assertIs(is_sharp(stair), silent == 0)

    def test_joined(self):
        for stair in every_stair():
            count, _ = dimensions(stair)
            self.assertGreaterEqual(count, row_count(stair) - sum(stair[1]))
            self.assertIs(is_joined(stair), count == row_count(stair) - sum(stair[1]))

    def test_the_numbers_of_the_partner_stair(self):
        for stair in every_stair():
            count, _ = dimensions(stair)
            self.assertEqual(dimensions(partner_stair(stair))[1], sum(stair[1]) - row_count(stair) + count)

    def test_sharp_exactly_if_joined(self):
        kinds = {}
        for stair in every_stair():
            other = partner_stair(stair)
            self.assertIs(is_sharp(other), is_joined(stair))
            self.assertIs(is_joined(other), is_sharp(stair))
            kinds[(is_sharp(stair), is_joined(stair))] = True
        self.assertEqual(len(kinds), 4)

    def test_sharp_or_not_and_joined_or_not(self):
        both = (2, (1, 1), (((1, 0, 1),), ((1, 0, 1),)))
        for stair, numbers, joined in (
                (OPEN, (3, 0), True), (ROUND, (4, 1), True), (LAID, (2, 0), True), (CUT, (2, 0), True),
                (FIVE, (1, 0), True), (TWICE, (2, 1), False), (both, (1, 1), False), (BARE, (0, 0), False),
                (STILL, (1, 0), True), (RING, (3, 1), True), (SPARE, (2, 1), True),
                ((2, (1, 1), (PASS, ((1, 0, 1),))), (1, 1), True), ((2, (0, 0), ((), ())), (0, 0), True)):
            self.assertEqual((dimensions(stair), is_joined(stair)), (numbers, joined), stair)
