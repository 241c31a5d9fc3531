"""Stairs told apart into rounds over stretches, and trimmed stairs."""

from roundstairs.errors import NotTrim
from roundstairs.parts import is_told_apart, part_rows
from roundstairs.rounds import (
    missed_by_rounds, passed_rows, room_spots, round_from, round_rows, step_spots, step_width)
from roundstairs.rows import head_of, is_int_from, is_row, is_sum, is_tuple_of
from roundstairs.stairs import check_stair


def judge_apart(stair):
    """The parts by which a stair is told apart, or a room or a step that is on no round."""
    check_stair(stair)
    missed = missed_by_rounds(stair)
    if missed is not None:
        return missed
    return ("apart", tuple([(stretch,) + round_from(stair[1], row) for stretch, row in part_rows(stair)]))


def apart_holds(stair, thing):
    """Whether any value is a certificate about the parts of a stair."""
    check_stair(stair)
    if is_tuple_of(2, thing):
        return thing[0] == "apart" and is_told_apart(stair, thing[1])
    return is_tuple_of(3, thing) and is_missed(stair, thing)


def is_missed(stair, thing):
    """Whether a triple tells a room or a step that is on no round."""
    q, sizes, sections = stair
    kind, at, marks = thing
    if kind not in ("room", "step") or not is_int_from(0, len(sizes) - 1, at):
        return False
    if kind == "room":
        spots = room_spots(sizes, at)
        is_there = is_row(q, sizes[at], marks)
    else:
        spots = step_spots(sizes, at)
        is_there = is_row(q, step_width(sizes, at), marks) and is_sum(q, sections[at], marks)
    return is_there and not is_sum(q, passed_rows(q, round_rows(stair), spots), marks)


def stair_stretches(stair):
    """The sorted tuple of the stretches of the parts of a trim stair."""
    told = judge_apart(stair)
    if told[0] != "apart":
        raise NotTrim(told)
    return tuple(sorted([part[0] for part in told[1]]))


def trimmed(stair):
    """A stair without the rooms and the steps that are on no round."""
    check_stair(stair)
    q, sizes, _ = stair
    rows = round_rows(stair)
    kept = [naming_spots(q, rows, room_spots(sizes, time)) for time in range(len(sizes))]
    behind = kept[1:] + kept[:1]
    sections = [passed_rows(q, rows, spots + [place] + target)
                for place, (spots, target) in enumerate(zip(kept, behind))]
    return (q, tuple([len(spots) for spots in kept]), tuple(sections))


def naming_spots(q, rows, spots):
    """Those of some spots whose marks tell the sums of some rows from each other at all these spots."""
    return [spots[head_of(line)] for line in passed_rows(q, rows, spots)]
