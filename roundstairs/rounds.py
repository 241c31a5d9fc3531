"""Rounds of a stair, each as one row.

Such a row has the marks of the word first and then those of the rooms, time by
time. All arguments have been checked by the functions of the interface.
"""

from roundstairs.rows import (
    is_row, is_sum, is_tuple_of, marks_at, noughts, partner_rows, plain_of, rest_of, spread, times, unit_rows)


def step_width(sizes, place):
    """How many marks a step of a place has."""
    behind = (place + 1) % len(sizes)
    return sizes[place] + 1 + sizes[behind]


def room_spots(sizes, time):
    """Where the marks of the room at a time stand in the row of a round."""
    start = len(sizes) + sum(sizes[:time])
    return list(range(start, start + sizes[time]))


def step_spots(sizes, place):
    """Where the marks of the step of a place stand in the row of a round."""
    behind = (place + 1) % len(sizes)
    return room_spots(sizes, place) + [place] + room_spots(sizes, behind)


def round_rows(stair):
    """The plain tuple whose sums are the rows of all rounds of a stair."""
    q, sizes, sections = stair
    width = len(sizes) + sum(sizes)
    bars = []
    for place, section in enumerate(sections):
        spots = step_spots(sizes, place)
        for bar in partner_rows(q, len(spots), section):
            bars.append(spread(bar, spots, width))
    return partner_rows(q, width, bars)


def round_from(sizes, row):
    """The pair of rooms and word that a row of a round stands for."""
    rooms = tuple([marks_at(row, room_spots(sizes, time)) for time in range(len(sizes))])
    return (rooms, row[:len(sizes)])


def is_rooms(q, sizes, thing):
    """Whether a value is a tuple of rooms, one at each time."""
    if not is_tuple_of(len(sizes), thing):
        return False
    return all([is_row(q, size, room) for size, room in zip(sizes, thing)])


def is_round_of(stair, thing):
    """Whether a value is a round of a stair."""
    q, sizes, sections = stair
    if not is_tuple_of(2, thing):
        return False
    rooms, word = thing
    if not is_rooms(q, sizes, rooms) or not is_row(q, len(sizes), word):
        return False
    return all([is_sum(q, section, step) for section, step in zip(sections, steps_along(rooms, word))])


def repeated(stair, m):
    """A stair laid m times one behind the other, perhaps with more places than a stair can have."""
    q, sizes, sections = stair
    return (q, sizes * m, sections * m)


def steps_along(rooms, word):
    """The steps of a round, place by place."""
    behind = rooms[1:] + rooms[:1]
    return [room + (mark,) + target for room, mark, target in zip(rooms, word, behind)]


def passed_rows(q, rows, spots):
    """The plain tuple whose sums are the marks of all sums of some rows at some spots."""
    return plain_of(q, [marks_at(row, spots) for row in rows])


def missed_by_rounds(stair):
    """A room or a step of a stair that is on no round, as a certificate, None if there is none."""
    q, sizes, sections = stair
    rows = round_rows(stair)
    for at, section in enumerate(sections):
        rooms = passed_rows(q, rows, room_spots(sizes, at))
        for room in unit_rows(sizes[at], list(range(sizes[at]))):
            if not is_sum(q, rooms, room):
                return ("room", at, room)
        steps = passed_rows(q, rows, step_spots(sizes, at))
        for step in section:
            if not is_sum(q, steps, step):
                return ("step", at, step)
    return None


def spelled_basis(stair):
    """The plain tuple whose sums are the words of all rounds of a stair."""
    q, sizes, _ = stair
    return plain_of(q, [row[:len(sizes)] for row in round_rows(stair)])


def round_spelling(stair, word):
    """A round of a stair that spells a word, None if there is none."""
    q, sizes, _ = stair
    n = len(sizes)
    rest = rest_of(q, round_rows(stair), word + noughts(sum(sizes)))
    if any(rest[:n]):
        return None
    # The round that was taken away is the word without rooms, less the rest.
    return round_from(sizes, word + times(q, -1, rest[n:]))
