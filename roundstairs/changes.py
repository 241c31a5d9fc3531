"""Stairs turned, renamed and laid several times one behind the other, and a bound for the sizes at two times."""

from roundstairs.books import MOST_PLACES, check_book
from roundstairs.errors import BadNumber, BadTables, BadTime, TooMany
from roundstairs.rounds import repeated
from roundstairs.rows import is_free, is_int, is_int_from, is_row, is_tuple_of, noughts, plain_of, plus
from roundstairs.stairs import check_stair
from roundstairs.stretches import rows_within


def turned(stair, t):
    """The stair that has as place and time i what was at i + t."""
    check_stair(stair)
    if not is_int(t):
        raise BadNumber(t)
    q, sizes, sections = stair
    start = t % len(sizes)
    return (q, sizes[start:] + sizes[:start], sections[start:] + sections[:start])


def is_table(q, size, thing):
    """Whether a value is a square table that leads no room of a size but noughts to noughts."""
    return is_tuple_of(size, thing) and all(is_row(q, size, row) for row in thing) and is_free(q, thing)


def is_tables(stair, thing):
    """Whether a value is tables for a stair."""
    q, sizes, _ = stair
    return is_tuple_of(len(sizes), thing) and all([is_table(q, size, table) for size, table in zip(sizes, thing)])


def led(q, room, table):
    """The room to which a table leads a room."""
    found = noughts(len(room))
    for mark, row in zip(room, table):
        found = plus(q, found, mark, row)
    return found


def renamed(stair, tables):
    """The stair whose steps have both their rooms led by tables."""
    check_stair(stair)
    if not is_tables(stair, tables):
        raise BadTables(tables)
    q, sizes, sections = stair
    behind = tables[1:] + tables[:1]
    found = [plain_of(q, [led_step(q, step, table, target) for step in section])
             for section, table, target in zip(sections, tables, behind)]
    return (q, sizes, tuple(found))


def led_step(q, step, table, target):
    """A step with both its rooms led, the room ahead by the first table."""
    size = len(table)
    return led(q, step[:size], table) + step[size:size + 1] + led(q, step[size + 1:], target)


def cover(stair, m):
    """A stair laid m times one behind the other."""
    check_stair(stair)
    if not is_int(m) or m < 1:
        raise BadNumber(m)
    if m * len(stair[1]) > MOST_PLACES:
        raise TooMany(MOST_PLACES)
    return repeated(stair, m)


def cut_bound(book, s, t):
    """The least that the sizes at two times add up to, by the words within the two arcs between them."""
    check_book(book)
    n = book[1]
    for time in (s, t):
        if not is_int_from(0, n - 1, time):
            raise BadTime(time)
    if s == t:
        raise BadTime(t)
    return len(book[2]) - arc_dimension(book, s, t) - arc_dimension(book, t, s)


def arc_dimension(book, s, t):
    """The dimension of the words within the places from one time on round to another one."""
    return len(rows_within(book, (s, (t - 1) % book[1])))
