"""Part 9: [9.1] prices, [9.2] heights, [9.3] mark by mark; and a sentence of [0.3]."""

import unittest

from roundstairs.changes import renamed, turned
from roundstairs.errors import BadPrices, BadRow, BadStair
from roundstairs.least import least_sizes, making_below
from roundstairs.makings import stair_of
from roundstairs.nearest import judge_nearest, mark_prices, nearest_holds, nearest_words, price_of
from roundstairs.stairs import spelled
from tests import oracles
from tests.samples import (
    BARE, COINS, CUT, DEAR, EVEN, FIVE, LAID, OPEN, RING, ROUND, SPARE, STILL, TWICE, Dice, any_values, full_books,
    largest_priced_stairs, mangled, some_prices, some_stairs, some_tables, told_stairs)

NEAR = ("nearest", (0, 1, 1), (((0,), (0, 3), (0, 1), (1,)),))


def priced_stairs():
    """(stair, prices) for stairs of all kinds and prices of all kinds."""
    dice = Dice(61)
    found = [(LAID, COINS), (LAID, DEAR), (RING, DEAR), (RING, COINS)]
    for stair in some_stairs() + [stair for stair, _ in told_stairs()[::2]]:
        for prices in some_prices(dice, stair[0], len(stair[1])):
            found.append((stair, prices))
    return found


def spoken_by(stair):
    return {word for _, word in oracles.rounds(stair)}


def exact_heights(stair, prices, start):
    """The least prices of all ways from a room at the time 0, each way gone by itself."""
    q, sizes, _ = stair
    n = len(sizes)
    ways = [(start, 0)]
    found = [tuple(0 if room == start else None for room in oracles.all_rows(q, sizes[0]))]
    for place in range(n):
        doors = oracles.steps(stair, place)
        ways = [(target, told + prices[place][mark]) for at, told in ways for room, mark, target in doors if room == at]
        row = []
        for room in oracles.all_rows(q, sizes[(place + 1) % n]):
            told = [price for target, price in ways if target == room]
            row.append(min(told) if told else None)
        found.append(tuple(row))
    return tuple(found)


class PricesTest(unittest.TestCase):
    """[9.1]"""

    def test_price_of_any_row(self):
        dice = Dice(63)
        for stair, prices in priced_stairs():
            q, sizes, _ = stair
            for _ in range(5):
                row = dice.row(q, len(sizes))
                self.assertEqual(price_of(stair, prices, row), oracles.price(prices, row))
        self.assertEqual(price_of(LAID, COINS, (1, 1, 1)), 4)
        self.assertEqual(price_of(LAID, DEAR, (1, 0, 0)), -2)
        self.assertEqual(price_of(STILL, ((0, 1, 2, 3, 4),) * 3, (4, 3, 4)), 11)

    def test_words_that_are_no_rows(self):
        for value in any_values() + [(0, 1), (0, 1, 1, 0), (0, 1, 2), (0, 1, True), [0, 1, 1], (0, 1, -1), "011"]:
            if not oracles.is_row(2, 3, value):
                with self.assertRaises(BadRow) as caught:
                    price_of(LAID, COINS, value)
                self.assertIs(caught.exception.thing, value)

    def test_what_prices_have_to_be(self):
        for thing in (COINS[:2], COINS + COINS[:1], ((0, 3), (0, 1), (2,)), ((0, 3), (0, 1), (2, 0, 1)), list(COINS),
                      ((0, 3), [0, 1], (2, 0)), ((0, 3), (0, True), (2, 0)), ((0, 3), (0, None), (2, 0)),
                      ((0, 3), (0, "1"), (2, 0)), ((0, 3), (0, (1,)), (2, 0)), (0, 3, 0, 1, 2, 0), ((), (), ()), (),
                      None, 0, True, "abc", {0: (0, 3), 1: (0, 1), 2: (2, 0)}, ((0, 3), None, (2, 0)), ((0, 3), 0, 0)):
            self.check_refused(LAID, thing)
        # By 3 there are three marks.
        self.check_refused((3, (0, 0), ((), ())), ((0, 1), (0, 1)))
        self.check_refused(FIVE, ((0,) * 5, (0,) * 4))

    def check_refused(self, stair, thing):
        for call in (judge_nearest, nearest_words, mark_prices, lambda a, b: nearest_holds(a, b, NEAR),
                     lambda a, b: price_of(a, b, None)):
            with self.assertRaises(BadPrices) as caught:
                call(stair, thing)
            self.assertIs(caught.exception.thing, thing)

    def test_any_prices(self):
        for stair, prices in ((LAID, COINS), (STILL, ((0, 1, 2, 3, 4),) * 3), (OPEN, ((0, 1),) * 4)):
            for thing in list(mangled(prices)) + any_values():
                if oracles.is_prices(stair, thing):
                    self.assertIs(nearest_holds(stair, thing, judge_nearest(stair, thing)), True)
                else:
                    self.check_refused(stair, thing)

    def test_bad_stairs_come_first(self):
        for stair in (None, EVEN, [*OPEN], (4,) + OPEN[1:], LAID[:2]):
            for function, others in ((judge_nearest, (None,)), (nearest_words, (None,)), (mark_prices, (None,)),
                                     (nearest_holds, (None, None)), (price_of, (None, None))):
                with self.assertRaises(BadStair) as caught:
                    function(stair, *others)
                self.assertIs(caught.exception.thing, stair)

    def test_nearest_words_against_all_words(self):
        several = 0
        for stair, prices in priced_stairs():
            right = oracles.nearest(prices, spoken_by(stair))
            self.assertEqual(nearest_words(stair, prices), right)
            several += len(right) > 1
        self.assertGreater(several, 50)

    def test_all_words_are_nearest_where_all_prices_are_0(self):
        for stair in some_stairs():
            q, sizes, _ = stair
            self.assertEqual(nearest_words(stair, ((0,) * q,) * len(sizes)), tuple(sorted(spoken_by(stair))))

    def test_stairs_of_one_book_have_the_same_nearest_words(self):
        dice = Dice(65)
        for book in full_books()[::4]:
            q, n, _ = book
            stairs = [stair_of(book, making_below(book, sizes)) for sizes in least_sizes(book)]
            stairs.append(renamed(stairs[0], some_tables(dice, q, stairs[0][1])))
            for prices in some_prices(dice, q, n):
                right = oracles.nearest(prices, oracles.words(book))
                for stair in stairs:
                    self.assertEqual(nearest_words(stair, prices), right)
                    self.assertIn(judge_nearest(stair, prices)[1], right)
                    self.assertEqual(mark_prices(stair, prices), oracles.mark_prices(q, prices, oracles.words(book)))


class HeightsTest(unittest.TestCase):
    """[9.2]"""

    def test_judge_nearest_against_the_definition(self):
        for stair, prices in priced_stairs():
            spoken = spoken_by(stair)
            told = judge_nearest(stair, prices)
            self.assertTrue(oracles.is_nearest(stair, prices, spoken, told))
            self.assertIs(nearest_holds(stair, prices, told), True)
            self.assertIn(told[1], oracles.nearest(prices, spoken))

    def test_exact_heights_are_right_with_each_nearest_word_and_no_other(self):
        for stair, prices in priced_stairs()[::3]:
            q, sizes, _ = stair
            spoken = spoken_by(stair)
            heights = tuple(exact_heights(stair, prices, start) for start in oracles.all_rows(q, sizes[0]))
            right = oracles.nearest(prices, spoken)
            for word in oracles.all_rows(q, len(sizes)):
                self.assertIs(nearest_holds(stair, prices, ("nearest", word, heights)), word in right)

    def test_none_in_heights(self):
        # No way leads to the room (1,) at the time 1.
        prices = ((1, 0), (0, 4), (0, 4))
        self.assertIs(nearest_holds(CUT, prices, ("nearest", (1, 0, 0), (((0,), (0, None), (0, 4), (0,)),))), True)
        # A room to which no way leads may have a height, but then the rooms behind it have to fit.
        self.assertIs(nearest_holds(CUT, prices, ("nearest", (1, 0, 0), (((0,), (0, 9), (0, 4), (0,)),))), True)
        self.assertIs(nearest_holds(CUT, prices, ("nearest", (1, 0, 0), (((0,), (0, -9), (0, 4), (0,)),))), False)
        self.assertIs(nearest_holds(CUT, prices, ("nearest", (1, 0, 0), (((0,), (0, -9), (-5, -9), (-5,)),))), False)
        self.assertIs(nearest_holds(CUT, prices, ("nearest", (1, 0, 0), (((0,), (None, 9), (0, 4), (0,)),))), False)
        self.assertIs(nearest_holds(CUT, prices, ("nearest", (1, 0, 0), (((0,), (0, None), (0, 4), (None,)),))), False)
        # From the room (1,) at the time 0 no way leads on.
        stair = (2, (1, 1), (((0, 1, 0),), ((0, 0, 1),)))
        prices = ((5, -1), (0, 0))
        item = ((None, 0), (None, None), (None, None))
        heights = (((0, None), (-1, None), (-1, -1)), item)
        self.assertIs(nearest_holds(stair, prices, ("nearest", (1, 0), heights)), True)
        self.assertEqual(judge_nearest(stair, prices)[2], heights)

    def test_heights_may_be_less_than_the_least_prices(self):
        self.assertIs(nearest_holds(LAID, COINS, NEAR), True)
        word, item = NEAR[1], NEAR[2][0]
        for heights, right in (
                (((0,), (-5, 3), (0, 1), (1,)), False), (((0,), (0, 3), (0, 1), (0,)), False),
                (((0,), (0, 2), (0, 1), (1,)), True), (((0,), (0, 4), (0, 1), (1,)), False),
                (((0,), (0, 1), (-1, 1), (1,)), True), (((1,), (0, 3), (0, 1), (1,)), False),
                (((0,), (0, 3), (0, 1), (2,)), False), (((0,), (0, 3), (0, 0), (1,)), False),
                (((None,), (0, 3), (0, 1), (1,)), False), (item[:3], False), (item + item[:1], False)):
            thing = ("nearest", word, (heights,))
            self.assertIs(nearest_holds(LAID, COINS, thing), right)
            self.assertIs(oracles.is_nearest(LAID, COINS, spoken_by(LAID), thing), right)

    def test_mangled_certificates(self):
        for stair, prices in ((LAID, COINS), (CUT, ((1, 0), (0, 4), (0, 4))), (STILL, ((0, -1, 2, 0, 0),) * 3),
                              (TWICE, ((0, -1), (2, -2))), (BARE, ((1, 0, 0), (0, -5, -5))), (SPARE, ((0, 0), (0, 0)))):
            spoken = spoken_by(stair)
            right = 0
            for thing in list(mangled(judge_nearest(stair, prices))) + any_values():
                answer = nearest_holds(stair, prices, thing)
                self.assertIs(answer, oracles.is_nearest(stair, prices, spoken, thing))
                right += answer
            self.assertGreater(right, 0)

    def test_heights_changed_at_two_places(self):
        dice = Dice(67)
        for stair, prices in ((RING, COINS), (RING, DEAR), (TWICE, ((3, -1), (0, 2))), (FIVE, ((0, 1, 2, 3, 4),) * 2)):
            spoken = spoken_by(stair)
            kind, word, heights = judge_nearest(stair, prices)
            right = 0
            for _ in range(400):
                changed = [[list(row) for row in item] for item in heights]
                for _ in range(1 + dice.throw(3)):
                    item = changed[dice.throw(len(changed))]
                    row = item[dice.throw(len(item))]
                    at = dice.throw(len(row))
                    row[at] = dice.throw(7) - 3 if row[at] is None else (None, row[at] - 1, row[at] + 1)[dice.throw(3)]
                thing = (kind, word, tuple(tuple(tuple(row) for row in item) for item in changed))
                answer = nearest_holds(stair, prices, thing)
                self.assertIs(answer, oracles.is_nearest(stair, prices, spoken, thing))
                right += answer
            self.assertGreater(right, 3)

    def test_wrong_certificates(self):
        heights = NEAR[2]
        for thing in (("near",) + NEAR[1:], NEAR[:2], NEAR + ((),), list(NEAR), ("nearest", [0, 1, 1], heights),
                      ("nearest", (0, True, 1), heights), ("nearest", (0, 1, 0), heights),
                      ("nearest", (1, 1, 0), heights), ("nearest", (0, 1, 1), list(heights)),
                      ("nearest", (0, 1, 1), heights[0]),
                      ("nearest", (0, 1, 1), heights * 2), ("nearest", (0, 1, 1), ()), ("nearest", None, heights),
                      ("nearest", (0, 1, 1), (((False,), (0, 3), (0, 1), (1,)),)),
                      ("nearest", (0, 1, 1), (((0,), (0, 3), (0, True), (1,)),)),
                      ("nearest", (0, 1, 1), (((0,), [0, 3], (0, 1), (1,)),))):
            self.assertIs(nearest_holds(LAID, COINS, thing), False)

    def test_for_other_prices(self):
        self.assertIs(nearest_holds(LAID, ((0, 3), (0, 1), (9, 7)), NEAR), False)
        self.assertIs(nearest_holds(LAID, ((0, 9), (0, 1), (2, 0)), NEAR), True)
        self.assertIs(nearest_holds(LAID, ((0, 3), (0, 1), (0, 0)), NEAR), False)
        self.assertIs(nearest_holds(RING, COINS, NEAR), False)

    def test_great_prices(self):
        great = 10 ** 6
        prices = ((great, -great), (-great, great), (great, great - 1))
        self.assertEqual(nearest_words(LAID, prices), ((1, 0, 1),))
        self.assertEqual(price_of(LAID, prices, (1, 0, 1)), -great - 1)
        self.assertEqual(judge_nearest(LAID, prices)[1], (1, 0, 1))
        self.assertEqual(mark_prices(LAID, prices), ((great, -great - 1), (-great - 1, great), (great, -great - 1)))
        # Nothing is refused beyond the limits.
        prices = ((0, -10 ** 39), (0, 0), (0, 1))
        self.assertEqual(nearest_words(LAID, prices), ((1, 1, 0),))
        self.assertIs(nearest_holds(LAID, prices, judge_nearest(LAID, prices)), True)

    def test_large_stairs(self):
        dice = Dice(69)
        for stair in largest_priced_stairs():
            q, sizes, _ = stair
            spoken = oracles.words(spelled(stair))
            for prices in some_prices(dice, q, len(sizes))[1:5]:
                told = judge_nearest(stair, prices)
                self.assertIs(nearest_holds(stair, prices, told), True)
                right = oracles.nearest(prices, spoken)
                self.assertEqual(nearest_words(stair, prices), right)
                self.assertIn(told[1], right)


class MarkByMarkTest(unittest.TestCase):
    """[9.3]"""

    def test_mark_prices_against_all_words(self):
        for stair, prices in priced_stairs():
            right = oracles.mark_prices(stair[0], prices, spoken_by(stair))
            self.assertEqual(mark_prices(stair, prices), right)

    def test_the_least_mark_price_is_that_of_a_nearest_word(self):
        for stair, prices in priced_stairs():
            word = nearest_words(stair, prices)[0]
            for place, row in enumerate(mark_prices(stair, prices)):
                self.assertEqual(min(told for told in row if told is not None), price_of(stair, prices, word))
                self.assertEqual(row[word[place]], price_of(stair, prices, word))

    def test_none_where_no_word_has_the_mark(self):
        self.assertEqual(mark_prices(BARE, ((1, 0, 0), (2, 9, 9))), ((3, None, None), (3, None, None)))
        self.assertEqual(mark_prices(STILL, ((1, 0, 0, 0, 0), (0, 1, 2, 3, -4), (0,) * 5)),
                         ((-3, None, None, None, None), (1, 2, 3, 4, -3), (-3, None, None, None, None)))
        self.assertEqual(mark_prices(ROUND, ((0, 1),) * 4), ((0, 2),) * 4)

    def test_turned(self):
        for stair, prices in priced_stairs()[::5]:
            other = turned(stair, 1)
            self.assertEqual(mark_prices(other, prices[1:] + prices[:1]),
                             mark_prices(stair, prices)[1:] + mark_prices(stair, prices)[:1])
            words = [word[1:] + word[:1] for word in nearest_words(stair, prices)]
            self.assertEqual(nearest_words(other, prices[1:] + prices[:1]), tuple(sorted(words)))
