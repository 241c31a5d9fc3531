"""Part 6: [6.1] parts, [6.2] trim stairs, [6.3] trimmed; and a sentence of [0.3]."""

import unittest
from itertools import combinations

from roundstairs.apart import apart_holds, judge_apart, stair_stretches, trimmed
from roundstairs.errors import BadStair, NotTrim
from roundstairs.makings import stair_of
from roundstairs.stairs import is_trim, round_count, rounds_of, spelled
from tests import oracles
from tests.samples import (
    BARE, CUT, EVEN, LAID, OPEN, PASS, ROUND, SPARE, STILL, TWICE, any_values, largest_stairs, largest_told_stairs,
    mangled, some_stairs, told_stairs)

LAID_PARTS = (((0, 1), ((), (1,), (0,)), (1, 1, 0)), ((1, 2), ((), (0,), (1,)), (0, 1, 1)))


def is_right(stair, laps, thing):
    """Whether a value is a certificate, from the rounds of a stair."""
    if type(thing) is tuple and len(thing) == 2 and thing[0] == "apart":
        return oracles.is_told_apart(stair, laps, thing[1])
    return repr(thing) in {repr(other) for other in oracles.missed(stair, laps)}


class TrimStairsTest(unittest.TestCase):
    """[6.1] and the certificates of [6.2] for trim stairs"""

    def test_stairs_that_were_laid_of_parts(self):
        for stair, parts in told_stairs():
            laps = oracles.rounds(stair)
            self.assertTrue(oracles.is_told_apart(stair, laps, parts))
            self.assertIs(apart_holds(stair, ("apart", parts)), True)
            self.assertIs(apart_holds(stair, ("apart", parts[::-1])), True)
            kind, told = judge_apart(stair)
            self.assertEqual(kind, "apart")
            self.assertTrue(oracles.is_told_apart(stair, laps, told))
            self.assertIs(apart_holds(stair, ("apart", told)), True)
            self.assertEqual(stair_stretches(stair), tuple(sorted(part[0] for part in parts)))

    def test_thrown_stairs(self):
        kinds = {}
        for stair in some_stairs():
            laps = oracles.rounds(stair)
            told = judge_apart(stair)
            kinds[told[0]] = True
            self.assertTrue(is_right(stair, laps, told))
            self.assertIs(apart_holds(stair, told), True)
            self.assertEqual(told[0] == "apart", oracles.is_trim(stair, laps))
            if told[0] == "apart":
                self.assertEqual(stair_stretches(stair), tuple(sorted(part[0] for part in told[1])))
        self.assertEqual(sorted(kinds), ["apart", "room", "step"])

    def test_parts_are_free_and_all(self):
        for stair, _ in told_stairs():
            q, sizes, _ = stair
            width = sum(sizes) + len(sizes)
            flat = [oracles.flat(part[1:]) for part in judge_apart(stair)[1]]
            self.assertEqual(len(flat), round_count(stair))
            self.assertTrue(oracles.is_free(q, width, flat))
            self.assertEqual(oracles.sums(q, width, flat), {oracles.flat(lap) for lap in oracles.rounds(stair)})

    def test_all_choices_of_rounds(self):
        for stair in (LAID, TWICE, (2, (1, 1), (PASS, PASS))):
            laps = oracles.rounds(stair)
            stretches = [(), *oracles.all_stretches(len(stair[1]))]
            parts = [(stretch, *lap) for lap in laps for stretch in stretches if oracles.lies_on(lap, stretch)]
            found = []
            for count in range(5):
                for thing in combinations(parts, count):
                    right = oracles.is_told_apart(stair, laps, thing)
                    self.assertIs(apart_holds(stair, ("apart", thing)), right)
                    if right:
                        found.append(sorted(part[0] for part in thing))
            self.assertGreater(len(found), 0)
            self.assertEqual([list(stair_stretches(stair))] * len(found), found)

    def test_each_stretch_for_each_round(self):
        for stair, parts in told_stairs()[::3]:
            laps = oracles.rounds(stair)
            n = len(stair[1])
            for lap in laps[:30]:
                for stretch in [(), *oracles.all_stretches(n)]:
                    for thing in (parts + ((stretch, *lap),), parts[1:] + ((stretch, *lap),)):
                        right = oracles.is_told_apart(stair, laps, thing)
                        self.assertIs(apart_holds(stair, ("apart", thing)), right)

    def test_mangled_parts(self):
        for stair, parts in ((LAID, LAID_PARTS), (TWICE, judge_apart(TWICE)[1]), (STILL, judge_apart(STILL)[1])):
            laps = oracles.rounds(stair)
            for thing in list(mangled(("apart", parts))) + any_values():
                self.assertIs(apart_holds(stair, thing), is_right(stair, laps, thing))

    def test_a_part_without_a_mark_goes_round(self):
        self.assertEqual(stair_stretches(TWICE), ((), (0, 0)))
        around = ((), ((1,), (1,)), (0, 0))
        alone = ((0, 0), ((0,), (0,)), (1, 0))
        self.assertIs(apart_holds(TWICE, ("apart", (around, alone))), True)
        self.assertIs(apart_holds(TWICE, ("apart", (((), ((1,), (1,)), (1, 0)), alone))), True)
        self.assertIs(apart_holds(TWICE, ("apart", (around,))), False)
        self.assertIs(apart_holds(TWICE, ("apart", (around, around))), False)
        self.assertIs(apart_holds(TWICE, ("apart", (((0, 1), ((1,), (1,)), (0, 0)), alone))), False)
        self.assertIs(apart_holds(TWICE, ("apart", (around, alone, ((0, 0), ((0,), (0,)), (0, 0))))), False)
        self.assertIs(apart_holds(TWICE, ("apart", (around, alone, ((), ((0,), (0,)), (0, 0))))), False)
        # It passes all places, but not the time 0.
        self.assertIs(apart_holds(TWICE, ("apart", (((), ((0,), (1,)), (1, 1)), alone))), False)
        still = (2, (1, 1, 1), (((1, 0, 1),),) * 3)
        self.assertEqual(judge_apart(still), ("apart", (((), ((1,), (1,), (1,)), (0, 0, 0)),)))

    def test_all_places_but_not_all_times(self):
        stair = (3, (0, 1), (((1, 2),), ((1, 1),)))
        self.assertEqual(stair_stretches(stair), ((0, 1),))
        part = ((0, 1), ((), (2,)), (1, 2))
        self.assertIs(apart_holds(stair, ("apart", (part,))), True)
        for stretch in ((), (1, 0), (0, 0), (1, 1), [0, 1], (False, 1), (0, True), (0, 2), None, 0):
            self.assertIs(apart_holds(stair, ("apart", ((stretch,) + part[1:],))), False)
        # Marks are 0 at both ends.
        stair = (2, (1, 1, 0), (((1, 0, 1),), ((1, 0),), ((0, 1),)))
        self.assertEqual(stair_stretches(stair), ((2, 1),))

    def test_no_part_at_all(self):
        none = (2, (0, 0, 0), ((), (), ()))
        self.assertEqual(judge_apart(none), ("apart", ()))
        self.assertEqual(stair_stretches(none), ())
        self.assertIs(apart_holds(none, ("apart", ())), True)
        self.assertIs(apart_holds(STILL, ("apart", ())), False)
        self.assertEqual(stair_stretches(STILL), ((1, 1),))
        self.assertEqual(trimmed(none), none)

    def test_stairs_of_makings(self):
        making = (((1, 1, 0, 0), (1, 0)), ((0, 1, 1, 0), (1, 2)), ((0, 0, 1, 1), (2, 3)))
        self.assertEqual(stair_stretches(stair_of(EVEN, making)), ((1, 0), (1, 2), (2, 3)))
        self.assertEqual(stair_stretches(ROUND), ((0, 1), (1, 2), (2, 3), (3, 0)))
        self.assertEqual(stair_stretches(OPEN), ((0, 1), (1, 2), (2, 3)))

    def test_large_stairs(self):
        for stair, parts in largest_told_stairs():
            told = judge_apart(stair)
            self.assertEqual(told[0], "apart")
            self.assertIs(apart_holds(stair, told), True)
            self.assertIs(apart_holds(stair, ("apart", parts)), True)
            self.assertEqual(stair_stretches(stair), tuple(sorted(part[0] for part in parts)))
            self.assertEqual(trimmed(stair), stair)
            self.assertIs(apart_holds(stair, ("apart", parts[1:])), False)
            self.assertIs(apart_holds(stair, ("apart", parts + parts[:1])), False)


class MissedTest(unittest.TestCase):
    """The certificates of [6.2] for stairs that are not trim"""

    def test_rooms_and_steps_exactly_if_on_no_round(self):
        for stair in [CUT, SPARE, TWICE, BARE, LAID] + some_stairs()[9::2]:
            q, sizes, _ = stair
            laps = oracles.rounds(stair)
            right = oracles.missed(stair, laps)
            for at, size in enumerate(sizes):
                for room in oracles.all_rows(q, size):
                    thing = ("room", at, room)
                    self.assertIs(apart_holds(stair, thing), thing in right)
                for step in oracles.all_rows(q, oracles.width(sizes, at)):
                    thing = ("step", at, step)
                    self.assertIs(apart_holds(stair, thing), thing in right)

    def test_never_both_kinds(self):
        for stair in some_stairs():
            laps = oracles.rounds(stair)
            self.assertEqual(oracles.missed(stair, laps) == [], judge_apart(stair)[0] == "apart")

    def test_mangled_certificates(self):
        for stair, thing in ((CUT, ("room", 1, (1,))), (CUT, ("step", 1, (1, 0, 1))), (SPARE, ("step", 0, (0, 0, 1))),
                             (BARE, ("room", 1, (0, 2)))):
            laps = oracles.rounds(stair)
            self.assertIs(apart_holds(stair, thing), True)
            for other in list(mangled(thing)) + any_values():
                self.assertIs(apart_holds(stair, other), is_right(stair, laps, other))

    def test_wrong_certificates(self):
        for thing in (("room", 1, (0,)), ("room", 2, (1,)), ("room", 0, ()), ("room", True, (1,)), ("room", 1, [1]),
                      ("room", 1, (True,)), ("room", -2, (1,)), ("room", 4, (1,)), ("step", 1, (1,)),
                      ("room", 1, (1, 0, 1)), ["room", 1, (1,)], ("room", 1), ("room", (1, (1,))),
                      ("step", 1, ((1,), 0, (1,))), ("step", 1, (1, 0, 0)), ("step", 0, (0, 1)), ("apart", 1, (1,)),
                      ("apart", ()), ("room", 1, (1,), 0), ("round", 1, (1,)), ("room", None, (1,))):
            self.assertIs(apart_holds(CUT, thing), False)

    def test_not_trim_bears_a_certificate(self):
        count = 0
        for stair in some_stairs() + largest_stairs():
            if not is_trim(stair):
                count += 1
                with self.assertRaises(NotTrim) as caught:
                    stair_stretches(stair)
                self.assertIn(caught.exception.certificate[0], ("room", "step"))
                self.assertIs(apart_holds(stair, caught.exception.certificate), True)
        self.assertGreater(count, 20)

    def test_bad_stairs(self):
        for stair in (None, EVEN, [*OPEN], (4,) + OPEN[1:], (2, (1, 1), (PASS, []))):
            for call in (judge_apart, stair_stretches, trimmed, lambda s: apart_holds(s, None)):
                with self.assertRaises(BadStair) as caught:
                    call(stair)
                self.assertIs(caught.exception.thing, stair)


class TrimmedTest(unittest.TestCase):
    """[6.3]"""

    def test_trimmed_by_going_round(self):
        for stair in some_stairs() + [stair for stair, _ in told_stairs()]:
            laps = oracles.rounds(stair)
            found = trimmed(stair)
            self.assertEqual(found, oracles.trimmed(stair, laps))
            self.assertTrue(oracles.is_stair(found))
            self.assertIs(is_trim(found), True)
            self.assertEqual(found == stair, oracles.is_trim(stair, laps))
            self.assertEqual(trimmed(found), found)
            self.assertEqual(spelled(found), spelled(stair))

    def test_rooms_are_called_by_the_first_marks(self):
        # On rounds are the rooms (0, 0, 0) and (0, 1, 2) and their sums at the time 1.
        stair = (3, (0, 3), (((1, 0, 1, 2),), ((0, 1, 2, 1),)))
        self.assertEqual(trimmed(stair), (3, (0, 1), (((1, 1),), ((1, 1),))))
        # Here (1, 1, 0) and (0, 0, 1): the second mark is told by the first one.
        stair = (2, (0, 3), (((1, 1, 1, 0), (0, 0, 0, 1)), ((1, 0, 0, 1), (0, 1, 0, 0), (0, 0, 1, 1))))
        self.assertEqual(trimmed(stair), (2, (0, 2), (((1, 1, 0), (0, 0, 1)), ((1, 0, 1), (0, 1, 1)))))

    def test_no_rooms_are_left(self):
        self.assertEqual(trimmed(BARE), (3, (0, 0), ((), ())))
        self.assertEqual(trimmed(SPARE), oracles.trimmed(SPARE, oracles.rounds(SPARE)))

    def test_large_stairs(self):
        for stair in largest_stairs():
            found = trimmed(stair)
            self.assertIs(is_trim(found), True)
            self.assertEqual(spelled(found), spelled(stair))
            self.assertEqual(found == stair, is_trim(stair))
            self.assertEqual(len(rounds_of(found)), len(rounds_of(stair)))
