"""Makings of a book, and the stairs that are made of them."""

from roundstairs.books import check_book
from roundstairs.errors import BadMaking, BadRow
from roundstairs.rounds import steps_along
from roundstairs.rows import (
    is_free, is_row, is_sum, is_tuple_of, marks_at, marks_by, numbered_rows, plain_of, unit_rows)
from roundstairs.stretches import inner_counts, inner_times, is_over, is_stretch_of


def is_making(book, thing):
    """Whether any value is a making of a book."""
    check_book(book)
    q, _, basis = book
    if not is_tuple_of(len(basis), thing) or not all(is_pair_of(book, pair) for pair in thing):
        return False
    return is_free(q, words_in(thing))


def is_pair_of(book, thing):
    """Whether a value is a pair of a word of a book and a stretch over which it lies."""
    if not is_tuple_of(2, thing):
        return False
    word, stretch = thing
    return is_word_of(book, word) and is_stretch_of(book[1], stretch) and is_over(word, stretch)


def is_word_of(book, thing):
    """Whether a value is a word of a book."""
    q, n, basis = book
    return is_row(q, n, thing) and is_sum(q, basis, thing)


def words_in(making):
    return [word for word, _ in making]


def check_making(book, making):
    if not is_making(book, making):
        raise BadMaking(making)


def making_sizes(book, making):
    """For each time of how many stretches of a making it is an inner time."""
    check_making(book, making)
    return sizes_in(book[1], making)


def sizes_in(n, making):
    return inner_counts(n, [stretch for _, stretch in making])


def pairs_passing(n, making):
    """For each time the positions of the pairs of whose stretch it is an inner time."""
    passing = [[] for _ in range(n)]
    for position, pair in enumerate(making):
        for time in inner_times(n, pair[1]):
            passing[time].append(position)
    return passing


def rooms_by(passing, marks):
    """The rooms of the round for some marks, one for each pair."""
    return tuple([marks_at(marks, positions) for positions in passing])


def stair_of(book, making):
    """The stair of a making."""
    check_making(book, making)
    q, n, _ = book
    k = len(making)
    passing = pairs_passing(n, making)
    # All rounds are sums of multiples of those for one mark 1 and else 0.
    units = unit_rows(k, list(range(k)))
    laps = [steps_along(rooms_by(passing, unit), pair[0]) for unit, pair in zip(units, making)]
    sections = [plain_of(q, [steps[place] for steps in laps]) for place in range(n)]
    return (q, sizes_in(n, making), tuple(sections))


def marks_of(book, making, row):
    """The marks with which the words of a making add up to a word."""
    check_making(book, making)
    if not is_word_of(book, row):
        raise BadRow(row)
    q = book[0]
    return marks_by(q, numbered_rows(q, words_in(making)), row)


def round_by(book, making, row):
    """The round of the stair of a making that spells a word."""
    marks = marks_of(book, making, row)
    return (rooms_by(pairs_passing(book[1], making), marks), row)
