"""Rounds over stretches, and the parts of a trim stair.

All arguments have been checked by the functions of the interface.
"""

from roundstairs.rounds import is_round_of, room_spots, round_rows, steps_along
from roundstairs.rows import is_free, is_tuple_of, plain_with, rest_of, rows_clear
from roundstairs.stretches import inner_times, is_stretch_of, places_in


def lies_on(rooms, word, stretch):
    """Whether a round passes just the places and the inner times of a stretch, or all times for ()."""
    n = len(word)
    times = [time for time, room in enumerate(rooms) if any(room)]
    if stretch == ():
        return len(times) == n
    places = [place for place, step in enumerate(steps_along(rooms, word)) if any(step)]
    return times == sorted(inner_times(n, stretch)) and places == sorted(places_in(n, stretch))


def is_part(stair, thing):
    """Whether a value is a stretch, or (), and the rooms and the word of a round that lies on it."""
    if not is_tuple_of(3, thing) or not is_round_of(stair, thing[1:]):
        return False
    stretch, rooms, word = thing
    return (stretch == () or is_stretch_of(len(word), stretch)) and lies_on(rooms, word, stretch)


def is_told_apart(stair, thing):
    """Whether a value is a tuple of parts by which a stair is told apart."""
    q, sizes, sections = stair
    if not isinstance(thing, tuple) or not all(is_part(stair, part) for part in thing):
        return False
    for time, size in enumerate(sizes):
        if not is_free_count(q, size, [part[1][time] for part in thing]):
            return False
    laps = [steps_along(part[1], part[2]) for part in thing]
    for place, section in enumerate(sections):
        if not is_free_count(q, len(section), [steps[place] for steps in laps]):
            return False
    return True


def is_free_count(q, count, rows):
    """Whether those of some rows that are not noughts are free, and so many."""
    passing = [row for row in rows if any(row)]
    return len(passing) == count and is_free(q, passing)


def rounds_by_length(stair):
    """Pairs of a stretch, the shorter ones first, and the row of a round; behind them all free rounds with ().

    The rows beside a stretch are free, and their sums are all rounds that pass
    no places but its places and no times but its inner times.
    """
    q, sizes, _ = stair
    n = len(sizes)
    width = n + sum(sizes)
    every = round_rows(stair)
    by_length = [[] for _ in range(n)]
    for a in range(n):
        rows = rows_clear(q, every, room_spots(sizes, a), width)
        for length in range(n, 0, -1):
            b = (a + length - 1) % n
            by_length[length - 1].extend([((a, b), row) for row in rows])
            # With no room behind it either, the step of the last place is noughts.
            rows = rows_clear(q, rows, room_spots(sizes, b) + [b], width)
    return [pair for pairs in by_length for pair in pairs] + [((), row) for row in every]


def part_rows(stair):
    """The parts of a trim stair, each as a pair of its stretch, or (), and the row of its round.

    As the stair can be told apart, a round within a stretch is a sum of rounds
    taken ahead of it exactly if it is one of rounds within shorter stretches of
    its own; else it lies on the whole of it. A round that is no sum of rounds
    over stretches passes all times.
    """
    q = stair[0]
    basis = ()
    parts = []
    for stretch, row in rounds_by_length(stair):
        rest = rest_of(q, basis, row)
        if any(rest):
            parts.append((stretch, row))
            basis = plain_with(q, basis, rest)
    return parts
