"""Rounds of a stair, each as one row.

Such a row has the marks of the word first and then those of the rooms, time by
time. All arguments have been checked by the functions of the interface.
"""

from roundstairs.rows import is_row, is_sum, is_tuple_of, noughts, partner_rows, plain_of, rest_of, times


def step_width(sizes, place):
    """How many marks a step of a place has."""
    behind = (place + 1) % len(sizes)
    return sizes[place] + 1 + sizes[behind]


def room_spots(sizes, time):
    """Where the marks of the room at a time stand in the row of a round."""
    start = len(sizes) + sum(sizes[:time])
    return list(range(start, start + sizes[time]))


def step_spots(sizes, place):
    """Where the marks of the step of a place stand in the row of a round."""
    behind = (place + 1) % len(sizes)
    return room_spots(sizes, place) + [place] + room_spots(sizes, behind)


def marks_at(row, spots):
    return tuple([row[spot] for spot in spots])


def spread(marks, spots, width):
    """The row of so many marks that has marks at some spots and 0 elsewhere."""
    row = [0] * width
    for spot, mark in zip(spots, marks):
        row[spot] = mark
    return tuple(row)


def round_rows(stair):
    """The plain tuple whose sums are the rows of all rounds of a stair."""
    q, sizes, sections = stair
    width = len(sizes) + sum(sizes)
    bars = []
    for place, section in enumerate(sections):
        spots = step_spots(sizes, place)
        for bar in partner_rows(q, len(spots), section):
            bars.append(spread(bar, spots, width))
    return partner_rows(q, width, bars)


def round_from(sizes, row):
    """The pair of rooms and word that a row of a round stands for."""
    rooms = tuple([marks_at(row, room_spots(sizes, time)) for time in range(len(sizes))])
    return (rooms, row[:len(sizes)])


def is_rooms(q, sizes, thing):
    """Whether a value is a tuple of rooms, one at each time."""
    if not is_tuple_of(len(sizes), thing):
        return False
    return all([is_row(q, size, room) for size, room in zip(sizes, thing)])


def is_round_of(stair, thing):
    """Whether a value is a round of a stair."""
    q, sizes, sections = stair
    if not is_tuple_of(2, thing):
        return False
    rooms, word = thing
    if not is_rooms(q, sizes, rooms) or not is_row(q, len(sizes), word):
        return False
    behind = rooms[1:] + rooms[:1]
    steps = [room + (mark,) + target for room, mark, target in zip(rooms, word, behind)]
    return all([is_sum(q, section, step) for section, step in zip(sections, steps)])


def spelled_basis(stair):
    """The plain tuple whose sums are the words of all rounds of a stair."""
    q, sizes, _ = stair
    return plain_of(q, [row[:len(sizes)] for row in round_rows(stair)])


def round_spelling(stair, word):
    """A round of a stair that spells a word, None if there is none."""
    q, sizes, _ = stair
    n = len(sizes)
    rest = rest_of(q, round_rows(stair), word + noughts(sum(sizes)))
    if any(rest[:n]):
        return None
    # The round that was taken away is the word without rooms, less the rest.
    return round_from(sizes, word + times(q, -1, rest[n:]))
