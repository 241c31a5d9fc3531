"""Part 10: [10.1] long rounds, [10.2] the least mean, [10.3] going round; and a sentence of [0.3]."""

import unittest
from fractions import Fraction
from math import gcd

from roundstairs.changes import cover, renamed, turned
from roundstairs.errors import BadPrices, BadStair
from roundstairs.nearest import nearest_words, price_of
from roundstairs.stairs import rounds_of
from roundstairs.turns import (
    fewest_turns, is_long_round, judge_mean, judge_turns, least_mean, mean_holds, turns_hold)
from tests import oracles
from tests.samples import (
    BARE, COINS, CUT, DEAR, EVEN, FIVE, LAID, OPEN, PASS, RING, ROUND, SPARE, STILL, TWICE, Dice, any_values,
    circling_stairs, largest_priced_stairs, largest_told_stairs, mangled, shifted, some_prices, some_stairs,
    some_tables, told_stairs)

# A long round of two turns of RING.
AGAIN = (((0,), (1,), (1,), (1,), (0,), (0,)), (1, 0, 0, 1, 0, 0))
LOW = ((0, 0), (-2, -2), (-2, -2))
# A round of LAID.
LAP = (((), (1,), (0,)), (1, 1, 0))


def priced_stairs():
    """(stair, prices) for stairs of all kinds and prices of all kinds."""
    dice = Dice(71)
    found = [(LAID, COINS), (LAID, DEAR), (RING, DEAR), (RING, COINS)] + circling_stairs()
    laid = [stair for stair, _ in told_stairs()[::3] if stair[0] ** max(stair[1]) <= 16]
    for stair in some_stairs() + laid:
        for prices in some_prices(dice, stair[0], len(stair[1])):
            found.append((stair, prices))
    return found


def most_turns(stair):
    """No more turns are needed for the least mean than there are rooms at a time."""
    return stair[0] ** min(stair[1])


def spoken_by(stair):
    return {word for _, word in oracles.rounds(stair)}


class LongRoundsTest(unittest.TestCase):
    """[10.1]"""

    def test_against_all_long_rounds_of_few_turns(self):
        dice = Dice(73)
        for stair in (LAID, RING, CUT, TWICE, SPARE, BARE, FIVE, STILL, shifted(3, (2,))):
            q, sizes, _ = stair
            for m in (1, 2, 3):
                laps = set(oracles.rounds(oracles.repeated(stair, m)))
                for lap in sorted(laps)[:50]:
                    self.assertIs(is_long_round(stair, lap), True)
                    # A mark is changed.
                    j = dice.throw(len(lap[1]))
                    word = lap[1][:j] + ((lap[1][j] + 1) % q,) + lap[1][j + 1:]
                    self.assertIs(is_long_round(stair, (lap[0], word)), (lap[0], word) in laps)
                    # The rooms are turned by a place, or by a turn.
                    for by in (1, len(sizes)):
                        other = (lap[0][by:] + lap[0][:by], lap[1])
                        right = oracles.is_long_round(stair, other)
                        self.assertIs(is_long_round(stair, other), right)
                        self.assertEqual(right, other in laps)

    def test_repeated_rounds(self):
        for stair in some_stairs()[::3] + [RING]:
            for rooms, word in rounds_of(stair):
                for m in (1, 2, 5, 40):
                    self.assertIs(is_long_round(stair, (rooms * m, word * m)), True)
        for m in (1, 2, 100):
            self.assertIs(is_long_round(RING, (AGAIN[0] * m, AGAIN[1] * m)), True)
        self.assertIs(is_long_round(RING, (AGAIN[0][:3], AGAIN[1][:3])), False)

    def test_what_a_long_round_has_to_be(self):
        rooms, word = LAP
        self.assertIs(is_long_round(LAID, LAP), True)
        for thing in ((rooms, word[:2]), (rooms[:2], word), (rooms * 2, word), (rooms, word * 2), ((), ()),
                      (rooms[:2] * 3, word[:2] * 3), (rooms + rooms[:1], word + word[:1]), (list(rooms), word),
                      (rooms, list(word)), [rooms, word], (rooms, word, ()), (word, rooms), (rooms, (1, True, 0)),
                      (((), (True,), (0,)), word), (((), [1], (0,)), word), (((), (1, 0), (0,)), word),
                      (((), (2,), (0,)), word), (rooms, (1, 1, 2)), (rooms, None), (None, word), (0, 0), None, (), "ab",
                      {0: rooms, 1: word}, (rooms, "110"), (rooms, {0: 1, 1: 1, 2: 0})):
            self.assertIs(is_long_round(LAID, thing), False)
            self.assertIs(oracles.is_long_round(LAID, thing), False)

    def test_any_value(self):
        for stair, lap in ((LAID, LAP), (RING, AGAIN), (STILL, (((),) * 6, (0, 3, 0, 0, 1, 0)))):
            for thing in list(mangled(lap)) + any_values():
                self.assertIs(is_long_round(stair, thing), oracles.is_long_round(stair, thing))

    def test_bad_stairs(self):
        for stair in [value for value in any_values() + list(mangled(LAID)) if not oracles.is_stair(value)]:
            with self.assertRaises(BadStair) as caught:
                is_long_round(stair, LAP)
            self.assertIs(caught.exception.thing, stair)


class LeastMeanTest(unittest.TestCase):
    """[10.2]"""

    def test_against_long_rounds_of_all_turns_that_are_needed(self):
        kinds = {}
        for stair, prices in priced_stairs():
            mean, turns = oracles.least_means(stair, prices, most_turns(stair))
            self.assertEqual(least_mean(stair, prices), mean)
            self.assertEqual(fewest_turns(stair, prices), turns)
            kinds[turns] = kinds.get(turns, 0) + 1
        self.assertEqual(sorted(kinds), [1, 2, 3, 4, 7, 8])

    def test_against_each_long_round_by_itself(self):
        for stair, prices in priced_stairs()[::2]:
            _, sizes, sections = stair
            if max(len(section) for section in sections) > 3 or sum(sizes) > 3:
                continue
            means = {}
            for m in (1, 2):
                laps = oracles.rounds(oracles.repeated(stair, m))
                means[m] = min(Fraction(oracles.price(prices, word), m) for _, word in laps)
            told = Fraction(*least_mean(stair, prices))
            self.assertLessEqual(told, min(means.values()))
            fewest = [m for m in (1, 2) if means[m] == told]
            self.assertEqual(fewest[:1], [m for m in (1, 2) if m == fewest_turns(stair, prices)])

    def test_judge_mean_against_the_definition(self):
        for stair, prices in priced_stairs():
            told = judge_mean(stair, prices)
            self.assertTrue(oracles.is_mean(stair, prices, told))
            self.assertIs(mean_holds(stair, prices, told), True)
            self.assertEqual(told[1], least_mean(stair, prices))

    def test_means_are_fractions(self):
        for stair, prices in priced_stairs():
            top, bottom = least_mean(stair, prices)
            self.assertEqual((type(top), type(bottom)), (int, int))
            self.assertGreater(bottom, 0)
            self.assertEqual(gcd(top, bottom), 1)

    def test_means_in_lowest_terms(self):
        # Two turns that cost -4 have the mean -2.
        self.assertEqual(least_mean(RING, DEAR), (-2, 1))
        self.assertEqual(fewest_turns(RING, DEAR), 2)
        # By 3 the rooms go round in eight turns, and six of the eight marks cost -1.
        stair = shifted(3, (1, 1))
        self.assertEqual(least_mean(stair, ((0, -1, -1), (0, 0, 0))), (-3, 4))
        self.assertEqual(fewest_turns(stair, ((0, -1, -1), (0, 0, 0))), 8)
        # By 5 in four turns, with the marks 1, 2, 4 and 3.
        stair = shifted(5, (2,))
        self.assertEqual(least_mean(stair, ((0, -1, -2, -3, -4), (0,) * 5)), (-5, 2))
        self.assertEqual(fewest_turns(stair, ((0, -1, -2, -3, -4), (0,) * 5)), 4)
        # By 2 in three and in fifteen turns.
        self.assertEqual(least_mean(shifted(2, (1, 1)), ((0, -1), (0, 0))), (-2, 3))
        stair = shifted(2, (1, 1, 0, 0))
        self.assertEqual(least_mean(stair, ((0, -1), (0, 0))), (-8, 15))
        self.assertEqual(fewest_turns(stair, ((0, -1), (0, 0))), 15)
        # A mean of 0 has the bottom 1, here of three turns that cost 4 - 4.
        self.assertEqual(least_mean(shifted(2, (1, 1)), ((4, -2), (0, 0))), (0, 1))
        self.assertEqual(fewest_turns(shifted(2, (1, 1)), ((4, -2), (0, 0))), 3)
        self.assertEqual(least_mean(STILL, ((0,) * 5,) * 3), (0, 1))

    def test_a_mean_holds_in_lowest_terms_alone(self):
        right = ("mean", (-2, 1)) + AGAIN + (LOW,)
        self.assertIs(mean_holds(RING, DEAR, right), True)
        for mean in ((-4, 2), (2, -1), (-2, True), (-2, 2), (-2, 0), (-4, 1), (0, 1), [-2, 1], -2, (-2,), (-2, 1, 1),
                     (True, 1), None, ("-2", 1), (None, None)):
            for heights in (LOW, tuple(tuple(2 * height for height in row) for row in LOW)):
                self.assertIs(mean_holds(RING, DEAR, ("mean", mean) + AGAIN + (heights,)), False)
        # A mean of 1 and True are the same for Python.
        once = ("mean", (1, 1), ((0,), (0,)), (0, 0), ((0,) * 3, (0,) * 3))
        stair = (3, (1, 1), (((1, 0, 1),), ((1, 0, 1),)))
        prices = ((1, 0, 0), (0, 0, 0))
        self.assertIs(mean_holds(stair, prices, once), False)
        once = once[:4] + (((0,) * 3, (1,) * 3),)
        self.assertIs(mean_holds(stair, prices, once), True)
        for mean in ((True, 1), (1, True), (True, True)):
            self.assertIs(mean_holds(stair, prices, once[:1] + (mean,) + once[2:]), False)

    def test_long_rounds_that_are_repeated_or_begin_elsewhere(self):
        for m in (1, 2, 3, 50):
            lap = (AGAIN[0] * m, AGAIN[1] * m)
            self.assertIs(mean_holds(RING, DEAR, ("mean", (-2, 1)) + lap + (LOW,)), True)
            # The same long round, begun a turn later.
            lap = (lap[0][3:] + lap[0][:3], lap[1][3:] + lap[1][:3])
            self.assertIs(mean_holds(RING, DEAR, ("mean", (-2, 1)) + lap + (LOW,)), True)
            lap = (lap[0][1:] + lap[0][:1], lap[1][1:] + lap[1][:1])
            self.assertIs(mean_holds(RING, DEAR, ("mean", (-2, 1)) + lap + (LOW,)), False)
        # Another long round, of the mean 0.
        self.assertIs(mean_holds(RING, DEAR, ("mean", (0, 1), ((0,),) * 3, (0,) * 3, LOW)), False)

    def test_heights_of_a_mean(self):
        for heights, right in (
                (LOW, True), (((7, 7), (5, 5), (5, 5)), True), (((0, 0), (-2, -2), (-3, -2)), False),
                (((0, 1), (-2, -2), (-2, -2)), False), (((0, 0), (-1, -2), (-2, -2)), False),
                (((0, 0), (-3, -2), (-3, -2)), False), (((0, 0), (-2, -2), (-2, -1)), False),
                (((0, 0), (-2, None), (-2, -2)), False), (((0, 0), (-2, -2)), False), (LOW + LOW[:1], False),
                (((0,), (-2, -2), (-2, -2)), False), (list(LOW), False), (((0, 0), [-2, -2], (-2, -2)), False),
                (((0, False), (-2, -2), (-2, -2)), False), ((), False), (None, False)):
            thing = ("mean", (-2, 1)) + AGAIN + (heights,)
            self.assertIs(mean_holds(RING, DEAR, thing), right)
            self.assertIs(oracles.is_mean(RING, DEAR, thing), right)

    def test_mangled_certificates(self):
        for stair, prices in ((LAID, COINS), (RING, DEAR), (CUT, COINS), (STILL, ((0, -1, 2, 0, 0),) * 3),
                              (shifted(5, (2,)), ((0, -1, -2, -3, -4), (0,) * 5)), (SPARE, ((0, 0), (0, 0)))):
            right = 0
            for thing in list(mangled(judge_mean(stair, prices))) + any_values():
                answer = mean_holds(stair, prices, thing)
                self.assertIs(answer, oracles.is_mean(stair, prices, thing))
                right += answer
            self.assertGreater(right, 0)

    def test_heights_changed_at_some_places(self):
        dice = Dice(75)
        for stair, prices in ((RING, DEAR), (TWICE, ((3, -1), (0, 2))), (shifted(3, (2,)), ((0, -1, -2), (0, 1, 2))),
                              (CUT, COINS), (SPARE, ((0, 0), (1, 0)))):
            told = judge_mean(stair, prices)
            right = 0
            for _ in range(300):
                heights = [list(row) for row in told[4]]
                for _ in range(1 + dice.throw(3)):
                    row = heights[dice.throw(len(heights))]
                    row[dice.throw(len(row))] += dice.throw(3) - 1
                thing = told[:4] + (tuple(tuple(row) for row in heights),)
                answer = mean_holds(stair, prices, thing)
                self.assertIs(answer, oracles.is_mean(stair, prices, thing))
                right += answer
            self.assertTrue(0 < right < 300)

    def test_stairs_that_are_changed_have_the_same_means(self):
        dice = Dice(77)
        for stair, prices in priced_stairs()[::4]:
            q, sizes, _ = stair
            mean, turns = least_mean(stair, prices), fewest_turns(stair, prices)
            other = renamed(stair, some_tables(dice, q, sizes))
            self.assertEqual((least_mean(other, prices), fewest_turns(other, prices)), (mean, turns))
            for t in (1, -1):
                start = t % len(sizes)
                moved = prices[start:] + prices[:start]
                other = turned(stair, t)
                self.assertEqual((least_mean(other, moved), fewest_turns(other, moved)), (mean, turns))
            # Two turns of the stair are one of the cover.
            if len(sizes) <= 6:
                top, bottom = least_mean(cover(stair, 2), prices * 2)
                self.assertEqual(Fraction(top, bottom), 2 * Fraction(*mean))

    def test_a_cover_of_the_fewest_turns_has_a_word_of_the_least_mean(self):
        for stair, prices in priced_stairs()[::3]:
            m = fewest_turns(stair, prices)
            if m * len(stair[1]) <= 12:
                long_prices = prices * m
                word = nearest_words(cover(stair, m), long_prices)[0]
                told = Fraction(price_of(cover(stair, m), long_prices, word), m)
                self.assertEqual((told.numerator, told.denominator), least_mean(stair, prices))
                self.assertEqual(judge_turns(cover(stair, m), long_prices)[0], "word")


class GoingRoundTest(unittest.TestCase):
    """[10.3]"""

    def test_judge_turns_against_the_definition(self):
        kinds = {}
        for stair, prices in priced_stairs():
            spoken = spoken_by(stair)
            told = judge_turns(stair, prices)
            self.assertTrue(oracles.is_going_round(stair, prices, spoken, told))
            self.assertIs(turns_hold(stair, prices, told), True)
            least = oracles.price(prices, oracles.nearest(prices, spoken)[0])
            mean = Fraction(*least_mean(stair, prices))
            self.assertLessEqual(mean, least)
            self.assertEqual(told[0], "word" if mean == least else "round")
            self.assertEqual(fewest_turns(stair, prices) == 1, told[0] == "word")
            kinds[told[0]] = kinds.get(told[0], 0) + 1
        self.assertGreater(min(kinds["word"], kinds["round"]), 20)

    def test_never_both_kinds(self):
        for stair, prices in priced_stairs()[::2]:
            told = judge_turns(stair, prices)
            _, _, rooms, word, heights = judge_mean(stair, prices)
            self.assertIs(turns_hold(stair, prices, ("round", rooms, word)), told[0] == "round")
            for near in nearest_words(stair, prices):
                self.assertIs(turns_hold(stair, prices, ("word", near, heights)), told[0] == "word")

    def test_a_size_of_0_whatever_the_prices_are(self):
        dice = Dice(79)
        for stair in (LAID, CUT, OPEN, FIVE, BARE, STILL, (2, (1, 0, 1), (((1, 1),), ((1, 0), (0, 1)), PASS))):
            q, sizes, _ = stair
            self.assertIn(0, sizes)
            for _ in range(4):
                for prices in some_prices(dice, q, len(sizes)):
                    told = judge_turns(stair, prices)
                    self.assertEqual(told[0], "word")
                    self.assertIs(turns_hold(stair, prices, told), True)
                    self.assertEqual(least_mean(stair, prices), (price_of(stair, prices, told[1]), 1))
                    self.assertEqual(fewest_turns(stair, prices), 1)
                    for rooms, word in rounds_of(stair):
                        self.assertIs(turns_hold(stair, prices, ("round", rooms, word)), False)
                        self.assertIs(turns_hold(stair, prices, ("round", rooms * 3, word * 3)), False)

    def test_long_rounds_for_the_kind_round(self):
        self.assertIs(turns_hold(RING, DEAR, ("round",) + AGAIN), True)
        # Six turns, of which two are silent: the mean is -4 / 3, and still less than 0.
        rooms, word = AGAIN[0] * 2 + ((0,),) * 6, AGAIN[1] * 2 + (0,) * 6
        self.assertIs(turns_hold(RING, DEAR, ("round", rooms, word)), True)
        # A long round of one turn has the price of a word.
        for lap in oracles.rounds(RING):
            self.assertIs(turns_hold(RING, DEAR, ("round",) + lap), False)
        # With silent turns alone the mean is that of a word.
        self.assertIs(turns_hold(RING, DEAR, ("round", ((0,),) * 6, (0,) * 6)), False)
        # Here one turn does as well.
        self.assertIs(turns_hold(RING, ((0, -2), (0, -9), (0, -9)), ("round",) + AGAIN), False)
        for thing in (("round",) + AGAIN[::-1], ("round", AGAIN), ("rounds",) + AGAIN, ("round",) + AGAIN + (LOW,),
                      ["round", *AGAIN], ("word",) + AGAIN, ("round", AGAIN[0][:3], AGAIN[1][:3]),
                      ("round", list(AGAIN[0]), AGAIN[1]), ("round", AGAIN[0], (1, 0, 0, True, 0, 0)),
                      ("round", (), ())):
            self.assertIs(turns_hold(RING, DEAR, thing), False)

    def test_heights_for_the_kind_word(self):
        zeros = ((0, 0),) * 3
        free = ((0, 0),) * 3
        self.assertIs(turns_hold(RING, free, ("word", (1, 1, 0), zeros)), True)
        self.assertIs(turns_hold(RING, free, ("word", (1, 0, 0), zeros)), False)
        paid = ((0, 0), (0, 0), (0, 5))
        self.assertIs(turns_hold(RING, paid, ("word", (1, 1, 0), zeros)), True)
        self.assertIs(turns_hold(RING, paid, ("word", (1, 0, 1), zeros)), False)
        self.assertIs(turns_hold(RING, paid, ("word", (1, 0, 1), ((0, 0), (0, 0), (5, 5)))), False)
        self.assertIs(turns_hold(RING, paid, ("word", (1, 1, 0), ((0, 0), (0, 0), (0, 1)))), False)
        for thing in (("word", (1, 1, 0)), ("word", (1, 1, 0), zeros, ()), ("word", (1, 1, False), zeros),
                      ("word", [1, 1, 0], zeros), ("word", (1, 1, 0), list(zeros)), ("word", (1, 1, 0), zeros[:2]),
                      ("word", (1, 1, 0), ((0, 0), (0, None), (0, 0))),
                      ("word", (1, 1, 0), ((0, 0), (0, 0), (0, False))),
                      ("nearest", (1, 1, 0), zeros), ["word", (1, 1, 0), zeros], ("word", zeros, (1, 1, 0))):
            self.assertIs(turns_hold(RING, free, thing), False)

    def test_mangled_certificates(self):
        for stair, prices in ((LAID, COINS), (RING, DEAR), (RING, COINS), (CUT, COINS),
                              (STILL, ((0, -1, 2, 0, 0),) * 3), (shifted(3, (2,)), ((0, -1, -2), (0, 0, 0))),
                              (SPARE, ((0, 0), (0, 0)))):
            spoken = spoken_by(stair)
            right = 0
            for thing in list(mangled(judge_turns(stair, prices))) + any_values():
                answer = turns_hold(stair, prices, thing)
                self.assertIs(answer, oracles.is_going_round(stair, prices, spoken, thing))
                right += answer
            self.assertGreater(right, 0)

    def test_long_rounds_and_words_at_random(self):
        for stair, prices in ((RING, DEAR), (shifted(3, (2,)), ((0, -1, -2), (0, 0, 0))), (TWICE, ((0, -1), (2, -2))),
                              (ROUND, ((0, -3), (0, 2), (0, 2), (0, 2)))):
            spoken = spoken_by(stair)
            heights = judge_mean(stair, prices)[4]
            for m in (1, 2):
                for lap in oracles.rounds(oracles.repeated(stair, m)):
                    thing = ("round",) + lap
                    right = oracles.is_going_round(stair, prices, spoken, thing)
                    self.assertIs(turns_hold(stair, prices, thing), right)
            for word in oracles.all_rows(stair[0], len(stair[1])):
                thing = ("word", word, heights)
                self.assertIs(turns_hold(stair, prices, thing), oracles.is_going_round(stair, prices, spoken, thing))


class WrongInputsTest(unittest.TestCase):

    def test_prices_that_are_none(self):
        for thing in list(mangled(COINS)) + any_values():
            for call in (judge_mean, least_mean, judge_turns, fewest_turns, lambda a, b: mean_holds(a, b, None),
                         lambda a, b: turns_hold(a, b, None)):
                if oracles.is_prices(LAID, thing):
                    call(LAID, thing)
                else:
                    with self.assertRaises(BadPrices) as caught:
                        call(LAID, thing)
                    self.assertIs(caught.exception.thing, thing)

    def test_bad_stairs_come_first(self):
        for stair in (None, EVEN, [*OPEN], (4,) + OPEN[1:], LAID[:2]):
            for function, others in ((judge_mean, ()), (least_mean, ()), (judge_turns, ()), (fewest_turns, ()),
                                     (mean_holds, (None,)), (turns_hold, (None,))):
                with self.assertRaises(BadStair) as caught:
                    function(stair, None, *others)
                self.assertIs(caught.exception.thing, stair)


class LargeTest(unittest.TestCase):

    def test_large_stairs(self):
        dice = Dice(81)
        for stair in largest_priced_stairs():
            q, sizes, _ = stair
            for prices in some_prices(dice, q, len(sizes))[2:5]:
                told = judge_mean(stair, prices)
                self.assertIs(mean_holds(stair, prices, told), True)
                self.assertEqual(least_mean(stair, prices), told[1])
                going = judge_turns(stair, prices)
                self.assertIs(turns_hold(stair, prices, going), True)
                self.assertEqual(fewest_turns(stair, prices) == 1, going[0] == "word")
                if going[0] == "round":
                    self.assertEqual(len(going[2]), fewest_turns(stair, prices) * len(sizes))
                if 0 in sizes:
                    self.assertEqual(going[0], "word")

    def test_great_prices(self):
        great = 10 ** 6
        stair = shifted(2, (1, 1, 0, 0))
        prices = ((great, -great), (0, great))
        self.assertEqual(least_mean(stair, prices), (-great // 5, 3))
        self.assertIs(mean_holds(stair, prices, judge_mean(stair, prices)), True)
        # Nothing is refused beyond the limits.
        prices = ((0, -10 ** 39), (0, 0))
        self.assertEqual(least_mean(stair, prices), (-8 * 10 ** 39 // 5, 3))
        self.assertIs(turns_hold(stair, prices, judge_turns(stair, prices)), True)

    def test_told_stairs(self):
        dice = Dice(83)
        for stair, _ in largest_told_stairs():
            q, sizes, _ = stair
            if max(sizes) <= (4, 2, 0, 1)[q - 2] and max(len(section) for section in stair[2]) <= 8:
                for prices in some_prices(dice, q, len(sizes)):
                    self.assertIs(mean_holds(stair, prices, judge_mean(stair, prices)), True)
                    self.assertIs(turns_hold(stair, prices, judge_turns(stair, prices)), True)
