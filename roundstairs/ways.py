"""Ways through a stair from room to room, and their prices.

A room is called by its position among all rooms of its time, in ascending
order. *Laid* steps are a list with an item for each place, a list of steps
(room ahead, price, room behind, what is gone by the step). Heights are tuples
with a row for each time, of an integer or None for each room. Only is_heights
accepts any value as `thing`; all other arguments have been checked by the
functions of the interface.
"""

from roundstairs.rounds import step_width
from roundstairs.rows import is_int, is_tuple_of, sums_of


def position_of(q, room):
    """The position of a room among all rooms of its time."""
    position = 0
    for mark in room:
        position = position * q + mark
    return position


def room_counts(stair):
    """How many rooms each of the times 0 to n has; the time n has those of the time 0."""
    q, sizes, _ = stair
    last_rooms = [(q - 1,) * size for size in sizes + sizes[:1]]
    return [position_of(q, room) + 1 for room in last_rooms]


def laid_steps(stair, prices):
    """The steps of all places of a stair, laid with their prices; each is a tuple of its marks."""
    q, sizes, sections = stair
    laid = []
    for place, section in enumerate(sections):
        size = sizes[place]
        steps = sums_of(q, step_width(sizes, place), section)
        laid.append([(position_of(q, step[:size]), prices[place][step[size]], position_of(q, step[size + 1:]), step)
                     for step in steps])
    return laid


def least_heights(laid, counts, start):
    """The least prices of the ways from a room at the time 0 to each room, None where no way leads."""
    heights = [tuple([0 if room == start else None for room in range(counts[0])])]
    for place, steps in enumerate(laid):
        heights.append(heights_behind(steps, heights[place], counts[place + 1]))
    return tuple(heights)


def heights_behind(steps, ahead, count):
    """The least heights of so many rooms behind a place, from those ahead of it."""
    behind = [None] * count
    for room, price, target, _ in steps:
        if ahead[room] is not None:
            height = ahead[room] + price
            if behind[target] is None or height < behind[target]:
                behind[target] = height
    return tuple(behind)


def least_way(laid, heights, target):
    """What is gone by the steps of a way of the least price to a room behind the last place, by least heights."""
    way = []
    for place in range(len(laid) - 1, -1, -1):
        ahead = heights[place]
        height = heights[place + 1][target]
        last = [(room, step) for room, price, behind, step in laid[place]
                if behind == target and ahead[room] is not None and ahead[room] + price == height]
        target, taken = last[0]
        way.append(taken)
    return way[::-1]


def round_along(sizes, way):
    """The rooms and the word of a way, told by the marks of its steps, once or several times round."""
    ahead = [sizes[at % len(sizes)] for at in range(len(way))]
    rooms = [step[:size] for size, step in zip(ahead, way)]
    word = [step[size] for size, step in zip(ahead, way)]
    return (tuple(rooms), tuple(word))


def is_heights(counts, thing):
    """Whether a value has, for each time, an integer or None for each of so many rooms."""
    if not is_tuple_of(len(counts), thing):
        return False
    return all([is_height_row(count, row) for count, row in zip(counts, thing)])


def is_height_row(count, thing):
    """Whether a value is a tuple of so many integers or None."""
    return is_tuple_of(count, thing) and all(height is None or is_int(height) for height in thing)


def do_lead(laid, heights):
    """Whether behind each step from a room with a height is one that is at most that and the price more."""
    for place, steps in enumerate(laid):
        ahead = heights[place]
        behind = heights[place + 1]
        for room, price, target, _ in steps:
            if ahead[room] is not None and (behind[target] is None or behind[target] > ahead[room] + price):
                return False
    return True
