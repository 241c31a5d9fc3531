"""Part 8: [8.1] turned, [8.2] renamed, [8.3] covers, [8.4] cuts."""

import unittest

from roundstairs.books import has_word, partner_of
from roundstairs.changes import cover, cut_bound, renamed, turned
from roundstairs.errors import BadBook, BadNumber, BadStair, BadTables, BadTime, TooMany
from roundstairs.least import least_sizes
from roundstairs.partners import dimensions, is_joined, partner_stair
from roundstairs.stairs import is_sharp, is_stair, is_trim, judge_word, rounds_of, spelled, steps_of
from roundstairs.turns import is_long_round
from tests import oracles
from tests.samples import (
    BARE, EVEN, FIVE, LAID, OPEN, PAIRS, RING, STILL, TWICE, Dice, any_values, full_books, largest_books,
    largest_stairs, largest_told_stairs, mangled, some_books, some_stairs, some_tables, told_stairs, whole)


def every_stair():
    laid = told_stairs() + largest_told_stairs()
    return [RING] + some_stairs() + largest_stairs() + [stair for stair, _ in laid]


def turned_words(stair, t):
    """The words of a stair, each begun at the place t."""
    n = len(stair[1])
    return {word[t % n:] + word[:t % n] for word in oracles.words(spelled(stair))}


class TurnedTest(unittest.TestCase):
    """[8.1]"""

    def test_each_place_and_time(self):
        for stair in every_stair():
            q, sizes, sections = stair
            n = len(sizes)
            for t in (-n - 1, -1, 0, 1, n - 1, n, 5 * n + 2, 10 ** 39 + 7, -10 ** 39):
                found = turned(stair, t)
                self.assertTrue(oracles.is_stair(found))
                self.assertEqual(found[0], q)
                for at in range(n):
                    self.assertEqual(found[1][at], sizes[(at + t) % n])
                    self.assertEqual(found[2][at], sections[(at + t) % n])

    def test_integers_that_lead_back(self):
        for stair in every_stair():
            n = len(stair[1])
            for t in (-2, -1, 1, 3, 10 ** 39):
                self.assertEqual(turned(turned(stair, t), -t), stair)
                self.assertEqual(turned(turned(stair, t), n - t % n), stair)
                self.assertEqual(turned(turned(stair, 1), t - 1), turned(stair, t))
            self.assertEqual(turned(stair, n), stair)
            self.assertEqual(turned(stair, 0), stair)

    def test_words_are_turned_likewise(self):
        for stair in some_stairs():
            for t in range(-1, len(stair[1])):
                found = turned(stair, t)
                self.assertEqual({word for _, word in oracles.rounds(found)}, turned_words(stair, t))
                self.assertEqual((is_sharp(found), is_trim(found)), (is_sharp(stair), is_trim(stair)))
                self.assertEqual(dimensions(found), dimensions(stair))

    def test_which_way(self):
        # What was at the place 1 is at the place 0 behind a turn by 1.
        self.assertEqual(turned(BARE, 1), (3, (2, 0), ((), ())))
        self.assertEqual(turned(STILL, 1), (5, (0, 0, 0), (((1,),), (), ())))
        self.assertEqual(turned(STILL, -1), (5, (0, 0, 0), ((), (), ((1,),))))
        self.assertEqual(turned(LAID, -1), (2, (1, 0, 1), (((1, 1),), ((1, 1),), LAID[2][1])))

    def test_no_integers(self):
        for value in any_values():
            if not oracles.is_int(value):
                with self.assertRaises(BadNumber) as caught:
                    turned(OPEN, value)
                self.assertIs(caught.exception.thing, value)
            with self.assertRaises(BadStair) as caught:
                turned(EVEN, value)
            self.assertIs(caught.exception.thing, EVEN)


class RenamedTest(unittest.TestCase):
    """[8.2]"""

    def inverse(self, q, table):
        """The table that leads all rooms back, picked out of where the rooms are led."""
        size = len(table)
        back = {oracles.led(q, room, table): room for room in oracles.all_rows(q, size)}
        return tuple(back[tuple(int(at == k) for at in range(size))] for k in range(size))

    def test_each_step_is_led(self):
        dice = Dice(51)
        for stair in some_stairs():
            q, sizes, _ = stair
            for _ in range(3):
                tables = some_tables(dice, q, sizes)
                found = renamed(stair, tables)
                self.assertTrue(oracles.is_stair(found))
                self.assertEqual(found[:2], (q, sizes))
                for place in range(len(sizes)):
                    right = oracles.renamed_steps(stair, tables, place)
                    self.assertEqual(steps_of(found, place), tuple(sorted(right)))

    def test_spells_the_same_book_and_leads_back(self):
        dice = Dice(53)
        for stair in every_stair():
            q, sizes, _ = stair
            if max(sizes) > 4:
                continue
            tables = some_tables(dice, q, sizes)
            found = renamed(stair, tables)
            self.assertEqual(spelled(found), spelled(stair))
            self.assertEqual((dimensions(found), is_trim(found)), (dimensions(stair), is_trim(stair)))
            self.assertEqual(renamed(found, tuple(self.inverse(q, table) for table in tables)), stair)
            units = tuple(tuple(tuple(int(at == k) for at in range(size)) for k in range(size)) for size in sizes)
            self.assertEqual(renamed(stair, units), stair)

    def test_rows_and_not_columns(self):
        # The room (1, 0) is led to the first row (1, 1), the room (0, 1) to (0, 1).
        stair = (2, (0, 2), (((1, 1, 0),), ((0, 1, 1),)))
        found = renamed(stair, ((), ((1, 1), (0, 1))))
        self.assertEqual(found, (2, (0, 2), (((1, 1, 1),), ((0, 1, 1),))))
        self.assertEqual(renamed(FIVE, ((), ((3,),))), (5, (0, 1), (((1, 3),), ((1, 2),))))
        self.assertEqual(renamed(STILL, ((), (), ())), STILL)
        self.assertEqual(renamed(BARE, ((), ((1, 2), (0, 2)))), BARE)

    def test_both_rooms_by_their_own_tables(self):
        # By 3, the room ahead of the place 1 by the first table, the one behind it by the second one.
        stair = (3, (0, 1, 1), (((1, 1),), ((1, 0, 1),), ((1, 1),)))
        self.assertEqual(renamed(stair, ((), ((2,),), ((1,),))), (3, (0, 1, 1), (((1, 2),), ((1, 0, 2),), ((1, 1),))))
        self.assertEqual(renamed(stair, ((), ((1,),), ((2,),))), (3, (0, 1, 1), (((1, 1),), ((1, 0, 2),), ((1, 2),))))
        # Behind the last place are the rooms of the time 0.
        stair = (3, (1, 0), (((1, 1),), ((1, 1),)))
        self.assertEqual(renamed(stair, (((2,),), ())), (3, (1, 0), (((1, 2),), ((1, 2),))))

    def test_no_tables(self):
        wide = (3, (0, 2), (((1, 1, 0),), ((0, 1, 1),)))
        units = ((1, 0), (0, 1))
        for thing in (
                ((), ((0, 0), (0, 0))), ((), ((1, 0), (0, 0))), ((), ((1, 2), (2, 1))), ((), ((1, 1), (1, 1))),
                ((), ((1, 0),)), ((), units + ((1, 1),)), ((), ((1,), (1,))), ((), ((1, 0, 0), (0, 1, 0))),
                ((), ((3, 0), (0, 1))), ((), ((-1, 0), (0, 1))), ((), ((True, 0), (0, 1))), ((), ((1, False), (0, 1))),
                ((), [(1, 0), (0, 1)]), ((), ([1, 0], [0, 1])), [(), units], (units, ()), (units,), ((), units, ()),
                (((),), units), ((0,), units), (None, units), ([], units), ((), None), ((), ()), (), None, "", 0):
            with self.assertRaises(BadTables) as caught:
                renamed(wide, thing)
            self.assertIs(caught.exception.thing, thing)
        self.assertEqual(renamed(wide, ((), units)), wide)

    def test_any_tables(self):
        right = 0
        for stair, tables in ((LAID, ((), ((1,),), ((1,),))), (FIVE, ((), ((3,),))), (TWICE, (((1,),), ((1,),))),
                              (BARE, ((), ((1, 2), (0, 2))))):
            for thing in list(mangled(tables)) + any_values():
                if oracles.is_tables(stair, thing):
                    right += 1
                    renamed(stair, thing)
                else:
                    with self.assertRaises(BadTables) as caught:
                        renamed(stair, thing)
                    self.assertIs(caught.exception.thing, thing)
        self.assertGreater(right, 5)
        with self.assertRaises(BadStair) as caught:
            renamed(EVEN, None)
        self.assertIs(caught.exception.thing, EVEN)


class CoverTest(unittest.TestCase):
    """[8.3]"""

    def test_sizes_and_sections_one_behind_the_other(self):
        for stair in every_stair():
            q, sizes, sections = stair
            n = len(sizes)
            for m in range(1, 12 // n + 1):
                found = cover(stair, m)
                self.assertTrue(is_stair(found))
                self.assertEqual(found[0], q)
                for at in range(m * n):
                    self.assertEqual((found[1][at], found[2][at]), (sizes[at % n], sections[at % n]))
                self.assertEqual((len(found[1]), len(found[2])), (m * n, m * n))
            self.assertEqual(cover(stair, 1), stair)
            self.assertEqual(cover(cover(stair, 1), 12 // n), cover(stair, 12 // n))

    def test_rounds_are_the_long_rounds(self):
        for stair in (LAID, RING, TWICE, FIVE, STILL):
            q, sizes, _ = stair
            for m in (1, 2, 12 // len(sizes)):
                found = cover(stair, m)
                for lap in rounds_of(found):
                    self.assertIs(is_long_round(stair, lap), True)
                if m < 3:
                    laps = set(oracles.rounds(found))
                    for lap in laps:
                        self.assertIs(is_long_round(stair, lap), True)
                    dice = Dice(m)
                    for _ in range(200):
                        lap = (tuple(dice.row(q, size) for size in sizes * m), dice.row(q, m * len(sizes)))
                        self.assertIs(is_long_round(stair, lap), lap in laps)

    def test_words_again_and_again_and_others(self):
        for stair in some_stairs():
            n = len(stair[1])
            for m in (1, 2, 3):
                found = spelled(cover(stair, m))
                for word in spelled(stair)[2]:
                    self.assertIs(has_word(found, word * m), True)
        self.assertEqual(judge_word(cover(RING, 2), (1, 0, 0, 1, 0, 0))[0], "round")
        self.assertEqual(judge_word(RING, (1, 0, 0))[0], "against")

    def test_no_numbers(self):
        for value in any_values():
            if not oracles.is_int(value) or value < 1:
                with self.assertRaises(BadNumber) as caught:
                    cover(OPEN, value)
                self.assertIs(caught.exception.thing, value)
            with self.assertRaises(BadStair) as caught:
                cover(EVEN, value)
            self.assertIs(caught.exception.thing, EVEN)

    def test_too_many_places(self):
        for stair in (OPEN, FIVE, STILL, (2, (0,) * 5, ((),) * 5), (2, (0,) * 12, ((),) * 12)):
            most = 12 // len(stair[1])
            self.assertEqual(len(cover(stair, most)[1]), most * len(stair[1]))
            for m in (most + 1, most + 2, 100, 10 ** 39):
                with self.assertRaises(TooMany) as caught:
                    cover(stair, m)
                self.assertEqual(vars(caught.exception), {"most": 12})


class CutsTest(unittest.TestCase):
    """[8.4]"""

    def test_by_all_words(self):
        for book in some_books() + full_books():
            n = book[1]
            for s in range(n):
                for t in range(n):
                    if s != t:
                        self.assertEqual(cut_bound(book, s, t), oracles.cut_bound(book, s, t))
                        self.assertEqual(cut_bound(book, t, s), cut_bound(book, s, t))

    def test_sizes_add_up_to_at_least_the_bound(self):
        equal = 0
        for stair in every_stair():
            book = spelled(stair)
            sizes = stair[1]
            for s in range(len(sizes)):
                for t in range(s):
                    self.assertGreaterEqual(sizes[s] + sizes[t], cut_bound(book, s, t))
                    equal += sizes[s] + sizes[t] == cut_bound(book, s, t)
        self.assertGreater(equal, 50)

    def test_least_sizes_and_the_bound(self):
        for book in full_books():
            for sizes in least_sizes(book):
                for s in range(book[1]):
                    for t in range(s):
                        self.assertGreaterEqual(sizes[s] + sizes[t], cut_bound(book, s, t))

    def test_of_the_partner(self):
        for book in some_books() + largest_books():
            for s, t in ((0, 1), (1, 0), (0, book[1] - 1), (book[1] - 1, book[1] // 2)):
                if s != t:
                    self.assertEqual(cut_bound(partner_of(book), s, t), cut_bound(book, s, t))

    def test_which_arcs(self):
        # The word (1, 1, 0) lies within the arc of the places 0 and 1, from the time 0 to the time 2.
        book = (2, 3, ((1, 1, 0),))
        self.assertEqual([cut_bound(book, 0, 1), cut_bound(book, 0, 2), cut_bound(book, 1, 2)], [1, 0, 1])
        self.assertEqual([cut_bound(book, 1, 0), cut_bound(book, 2, 0), cut_bound(book, 2, 1)], [1, 0, 1])
        self.assertEqual([cut_bound(PAIRS, 0, 2), cut_bound(PAIRS, 1, 3), cut_bound(PAIRS, 0, 1)], [2, 2, 1])
        self.assertEqual([cut_bound(whole(5, 4), 1, 2), cut_bound((3, 5, ()), 4, 2)], [0, 0])

    def test_no_times(self):
        for value in any_values():
            if not oracles.is_int(value) or not 0 <= value < 4:
                for s, t in ((value, 1), (1, value), (value, value), (value, None), (value, 7)):
                    with self.assertRaises(BadTime) as caught:
                        cut_bound(EVEN, s, t)
                    self.assertIs(caught.exception.thing, value)
            with self.assertRaises(BadBook) as caught:
                cut_bound(OPEN, value, value)
            self.assertIs(caught.exception.thing, OPEN)
        for time in range(4):
            with self.assertRaises(BadTime) as caught:
                cut_bound(EVEN, time, time)
            self.assertEqual(vars(caught.exception), {"thing": time})
        with self.assertRaises(BadTime) as caught:
            cut_bound(EVEN, 4, -1)
        self.assertEqual(caught.exception.thing, 4)
        # False is the same as 0 for Python, but it is no time.
        with self.assertRaises(BadTime) as caught:
            cut_bound(EVEN, 0, False)
        self.assertIs(caught.exception.thing, False)


class TogetherTest(unittest.TestCase):
    """Changes of stairs and partner stairs"""

    def test_partner_stairs_of_changed_stairs(self):
        for stair in every_stair():
            other = partner_stair(stair)
            self.assertEqual(partner_stair(turned(stair, 1)), turned(other, 1))
            if len(stair[1]) <= 6:
                self.assertEqual(partner_stair(cover(stair, 2)), cover(other, 2))
            self.assertIs(is_joined(turned(stair, 1)), is_joined(stair))
