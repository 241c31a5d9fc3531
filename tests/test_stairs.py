"""Part 2: [2.1] stairs, [2.2] rounds, [2.3] certificates; and the first sentence of [0.3]."""

import unittest

from roundstairs.errors import BadPlace, BadRow, BadStair, BadTime
from roundstairs.stairs import (
    is_round, is_sharp, is_stair, is_trim, judge_word, round_count, rooms_of, rounds_of, spelled, steps_of, word_holds)
from tests import oracles
from tests.samples import (
    BARE, CUT, EVEN, FIVE, LAID, OPEN, PASS, ROUND, SPARE, STILL, TWICE, Dice, any_values, largest_stairs, mangled,
    some_stairs)


class StairsTest(unittest.TestCase):
    """[2.1]"""

    def test_stairs(self):
        for stair in some_stairs() + largest_stairs():
            self.assertIs(is_stair(stair), True)

    def test_sizes(self):
        for n in range(15):
            self.assertIs(is_stair((2, (0,) * n, ((),) * n)), 2 <= n <= 12)
        for size in range(-1, 9):
            self.assertIs(is_stair((3, (size, 0), ((), ()))), 0 <= size <= 6)
        for sizes in ([0, 0], (0, True), (False, 0), (0, None), (0, "0"), (0, (0,)), None, 2, "00", {0: 0, 1: 0}):
            self.assertIs(is_stair((2, sizes, ((), ()))), False)

    def test_sections(self):
        for sections in (((),), ((), (), ()), [(), ()], ([], ()), ((), None), ((), ((1, 0, 0),)), ((), ((0, 0),)),
                         ((), ((1, True),)), ((), ([1, 0],)), ((), ((1, 2),)), (((1, 1), (0, 1)), ()),
                         (((0, 1), (1, 0)), ())):
            self.assertIs(is_stair((2, (0, 1), sections)), False)
        for sections in (((), ()), (((1, 0),), ((0, 1),)), (((1, 0), (0, 1)), ((1, 1),))):
            self.assertIs(is_stair((2, (0, 1), sections)), True)
        self.assertIs(is_stair((3, (0, 1), (((2, 0),), ()))), False)
        # The section behind the last place leads to the time 0.
        self.assertIs(is_stair((2, (2, 0, 1), ((), (), ((1, 0, 1, 0),)))), True)
        self.assertIs(is_stair((2, (2, 0, 1), ((), (), ((1, 0),)))), False)

    def test_mangled_stairs(self):
        for stair in (OPEN, CUT, FIVE, BARE, STILL, TWICE):
            for thing in mangled(stair):
                self.assertIs(is_stair(thing), oracles.is_stair(thing))

    def test_rooms(self):
        for stair in some_stairs() + largest_stairs():
            q, sizes, _ = stair
            for time, size in enumerate(sizes):
                self.assertEqual(rooms_of(stair, time), tuple(oracles.all_rows(q, size)))

    def test_steps(self):
        for stair in some_stairs() + largest_stairs():
            for place in range(len(stair[1])):
                steps = sorted(room + (mark,) + target for room, mark, target in oracles.steps(stair, place))
                self.assertEqual(steps_of(stair, place), tuple(steps))
        self.assertEqual(steps_of(BARE, 0), ((0, 0, 0),))

    def test_times_and_places(self):
        for stair in (OPEN, FIVE, STILL):
            n = len(stair[1])
            for value in [n, n + 1, -1, True, False, None, "0", (0,), [0], {}, 10 ** 39]:
                with self.assertRaises(BadTime) as caught:
                    rooms_of(stair, value)
                self.assertIs(caught.exception.thing, value)
                with self.assertRaises(BadPlace) as caught:
                    steps_of(stair, value)
                self.assertIs(caught.exception.thing, value)
        for function in (rooms_of, steps_of):
            with self.assertRaises(BadStair) as caught:
                function(EVEN, 9)
            self.assertIs(caught.exception.thing, EVEN)


class RoundsTest(unittest.TestCase):
    """[2.2]"""

    def test_is_round_goes_step_by_step(self):
        for stair in some_stairs():
            q, sizes, _ = stair
            laps = set(oracles.rounds(stair))
            dice = Dice(len(laps))
            for lap in sorted(laps)[:40]:
                self.assertIs(is_round(stair, lap), True)
            for _ in range(60):
                rooms = tuple(dice.row(q, size) for size in sizes)
                lap = (rooms, dice.row(q, len(sizes)))
                self.assertIs(is_round(stair, lap), lap in laps)

    def test_each_lap_of_small_stairs(self):
        for stair in (CUT, LAID, SPARE, TWICE):
            q, sizes, _ = stair
            laps = oracles.rounds(stair)
            for row in oracles.all_rows(q, sum(sizes) + len(sizes)):
                ends = [sum(sizes[:time + 1]) for time in range(len(sizes))]
                rooms = tuple(row[end - size:end] for size, end in zip(sizes, ends))
                lap = (rooms, row[sum(sizes):])
                self.assertIs(is_round(stair, lap), lap in laps)

    def test_mangled_rounds(self):
        for stair in (OPEN, TWICE, FIVE, STILL):
            laps = oracles.rounds(stair)
            right = [repr(lap) for lap in laps]
            for lap in laps[:3] + laps[-1:]:
                for thing in mangled(lap):
                    self.assertIs(is_round(stair, thing), repr(thing) in right)

    def test_any_value_is_no_round_of_other_stairs(self):
        for value in any_values():
            self.assertIs(is_round(FIVE, value), False)

    def test_rounds_of_are_free_and_all(self):
        for stair in some_stairs():
            q, sizes, _ = stair
            width = sum(sizes) + len(sizes)
            laps = oracles.rounds(stair)
            free = rounds_of(stair)
            self.assertEqual(round_count(stair), oracles.count_of(q, laps))
            self.assertEqual(len(free), round_count(stair))
            self.assertTrue(all(lap in laps for lap in free))
            flat = [oracles.flat(lap) for lap in free]
            self.assertEqual(oracles.sums(q, width, flat), {oracles.flat(lap) for lap in laps})
            self.assertTrue(oracles.is_free(q, width, flat))

    def test_rounds_of_large_stairs(self):
        for stair in largest_stairs():
            free = rounds_of(stair)
            self.assertEqual(len(free), round_count(stair))
            for lap in free:
                self.assertIs(is_round(stair, lap), True)

    def test_spelled_by_going_round(self):
        for stair in some_stairs():
            q, sizes, _ = stair
            book = spelled(stair)
            self.assertTrue(oracles.is_book(book))
            self.assertEqual(book[:2], (q, len(sizes)))
            self.assertEqual(oracles.words(book), {word for _, word in oracles.rounds(stair)})

    def test_sharp_and_trim(self):
        kinds = {}
        for stair in some_stairs():
            laps = oracles.rounds(stair)
            sharp = len([word for _, word in laps if not any(word)]) == 1
            trim = oracles.is_trim(stair, laps)
            self.assertIs(is_sharp(stair), sharp)
            self.assertIs(is_trim(stair), trim)
            kinds[(sharp, trim)] = True
        self.assertEqual(len(kinds), 4)

    def test_sharp_or_not_and_trim_or_not(self):
        for stair, sharp, trim in (
                (OPEN, True, True), (ROUND, False, True), (LAID, True, True), (CUT, True, False),
                (FIVE, True, True), (SPARE, False, False), (TWICE, False, True), (BARE, True, False),
                (STILL, True, True)):
            self.assertEqual((is_sharp(stair), is_trim(stair)), (sharp, trim))

    def test_no_rows_in_sections(self):
        self.assertEqual(round_count(BARE), 0)
        self.assertEqual(rounds_of(BARE), ())
        self.assertEqual(spelled(BARE), (3, 2, ()))
        self.assertEqual(judge_word(BARE, (0, 0)), ("round", (((), (0, 0)), (0, 0))))
        self.assertEqual(spelled(STILL), (5, 3, ((0, 1, 0),)))
        self.assertEqual(rounds_of(STILL), ((((), (), ()), (0, 1, 0)),))


class CertificatesTest(unittest.TestCase):
    """[2.3], and the first sentence of [0.3]"""

    def test_judge_word_for_each_row(self):
        for stair in some_stairs():
            q, sizes, _ = stair
            laps = oracles.rounds(stair)
            for row in oracles.all_rows(q, len(sizes)):
                right = oracles.certificates(stair, row, laps)
                told = judge_word(stair, row)
                self.assertIn(repr(told), [repr(thing) for thing in right])
                self.assertIs(word_holds(stair, row, told), True)
                self.assertEqual(len({kind for kind, _ in right}), 1)

    def test_certificates_are_accepted_exactly_if_right(self):
        for stair in (OPEN, ROUND, CUT, FIVE, SPARE, TWICE, BARE):
            q, sizes, _ = stair
            rows = oracles.all_rows(q, len(sizes))
            laps = oracles.rounds(stair)
            things = [("round", lap) for lap in laps] + [("against", row) for row in rows]
            for row in rows:
                right = oracles.certificates(stair, row, laps)
                for thing in things:
                    self.assertIs(word_holds(stair, row, thing), thing in right)

    def test_mangled_certificates(self):
        for stair in (OPEN, TWICE, FIVE):
            q, sizes, _ = stair
            laps = oracles.rounds(stair)
            for row in oracles.all_rows(q, len(sizes)):
                right = oracles.certificates(stair, row, laps)
                texts = [repr(thing) for thing in right]
                for thing in mangled(right[0]):
                    self.assertIs(word_holds(stair, row, thing), repr(thing) in texts)

    def test_certificates_for_another_row_or_of_the_other_kind(self):
        lap = (((), (1,), (0,), (0,)), (1, 1, 0, 0))
        self.assertIs(word_holds(OPEN, (1, 1, 0, 0), ("round", lap)), True)
        self.assertIs(word_holds(OPEN, (0, 1, 1, 0), ("round", lap)), False)
        self.assertIs(word_holds(OPEN, (1, 1, 0, 0), ("against", lap)), False)
        self.assertIs(word_holds(OPEN, (1, 1, 0, 0), ("against", (1, 1, 1, 1))), False)
        # It doesn't meet the row in 0, but is no row of the partner.
        self.assertIs(word_holds(OPEN, (1, 0, 0, 0), ("against", (1, 0, 0, 0))), False)
        self.assertIs(word_holds(OPEN, (1, 0, 0, 0), ("round", (1, 1, 1, 1))), False)
        self.assertIs(word_holds(OPEN, (1, 0, 0, 0), ("against", (1, 1, 1, True))), False)
        self.assertIs(word_holds(OPEN, (1, 0, 0, 0), ["against", (1, 1, 1, 1)]), False)
        self.assertIs(word_holds(OPEN, (1, 0, 0, 0), ("against", [1, 1, 1, 1])), False)

    def test_large_stairs(self):
        dice = Dice(1)
        for stair in largest_stairs():
            q, sizes, _ = stair
            kinds = [judge_word(stair, (0,) * len(sizes))[0]]
            for _ in range(30):
                row = dice.row(q, len(sizes))
                told = judge_word(stair, row)
                kinds.append(told[0])
                self.assertIs(word_holds(stair, row, told), True)
            self.assertIn("round", kinds)

    def test_rows_of_another_kind(self):
        for stair in (OPEN, FIVE):
            q, sizes, _ = stair
            n = len(sizes)
            for value in [(0,) * (n + 1), (0,) * (n - 1), (q,) * n, (-1,) * n, (True,) * n, [0] * n, None, "0" * n, 0]:
                for call in (judge_word, lambda a, b: word_holds(a, b, ("round", None))):
                    with self.assertRaises(BadRow) as caught:
                        call(stair, value)
                    self.assertIs(caught.exception.thing, value)

    def test_bad_stairs_come_first(self):
        for stair in (None, EVEN, (2, (1, 1), (PASS, [])), [*OPEN], (4,) + OPEN[1:]):
            for function, others in (
                    (rooms_of, (9,)), (steps_of, (9,)), (is_round, (None,)), (round_count, ()), (rounds_of, ()),
                    (spelled, ()), (is_sharp, ()), (is_trim, ()), (judge_word, (None,)), (word_holds, (None, None))):
                with self.assertRaises(BadStair) as caught:
                    function(stair, *others)
                self.assertIs(caught.exception.thing, stair)
