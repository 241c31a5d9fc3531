"""Stretches of the ring, and the list of a full book."""

from roundstairs.books import check_book, is_length, within
from roundstairs.errors import BadField, BadLength, BadRow, BadStretch, NotFull
from roundstairs.rows import (
    head_of, is_field, is_int_from, is_row, is_tuple_of, marks_at, partner_rows, plain_of, sums_of)


def is_stretch_of(n, thing):
    """Whether a value is a stretch of n places."""
    return is_tuple_of(2, thing) and all(is_int_from(0, n - 1, place) for place in thing)


def check_length(n):
    if not is_length(n):
        raise BadLength(n)


def check_stretch(n, stretch):
    if not is_stretch_of(n, stretch):
        raise BadStretch(stretch)


def is_stretch(n, thing):
    check_length(n)
    return is_stretch_of(n, thing)


def places_in(n, stretch):
    """The places of a stretch, as one goes."""
    check_length(n)
    check_stretch(n, stretch)
    a, b = stretch
    return tuple([(a + k) % n for k in range((b - a) % n + 1)])


def inner_times(n, stretch):
    """The times between two places of a stretch, as one goes."""
    return places_in(n, stretch)[1:]


def inner_counts(n, stretches):
    """For each time of how many of some stretches it is an inner time."""
    counts = [0] * n
    for stretch in stretches:
        for time in inner_times(n, stretch):
            counts[time] += 1
    return tuple(counts)


def check_field_and_row(q, row):
    if not is_field(q):
        raise BadField(q)
    if not isinstance(row, tuple) or not is_length(len(row)) or not is_row(q, len(row), row):
        raise BadRow(row)


def stretches_of(q, row):
    """The ascending tuple of all stretches over which a row lies."""
    check_field_and_row(q, row)
    marked = [place for place, mark in enumerate(row) if mark != 0]
    # A stretch that begins at a mark ends at the mark ahead of it on the ring.
    return tuple([(a, b) for a, b in zip(marked, marked[-1:] + marked[:-1])])


def is_over(row, stretch):
    """Whether a row lies over a stretch of as many places as it has marks."""
    a, b = stretch
    if row[a] == 0 or row[b] == 0:
        return False
    places = places_in(len(row), stretch)
    return all([mark == 0 or place in places for place, mark in enumerate(row)])


def does_lie_over(q, row, stretch):
    """Whether a row lies over a stretch."""
    check_field_and_row(q, row)
    check_stretch(len(row), stretch)
    return is_over(row, stretch)


def is_full(book):
    """Whether at each place some word has a mark other than 0, and some row of the partner."""
    check_book(book)
    q, n, basis = book
    partner = partner_rows(q, n, basis)
    return all(any(row[place] for row in basis) and any(row[place] for row in partner) for place in range(n))


def check_full(book):
    if not is_full(book):
        raise NotFull()


def list_of(book):
    """The ascending tuple of the n stretches that belong to a full book."""
    check_full(book)
    return tuple([shortest_from(book, place) for place in range(book[1])])


def shortest_from(book, place):
    """The shortest stretch that begins at a place and over which some word of a full book lies."""
    q, n, basis = book
    # Read from behind, a plain tuple has the words that end soonest as its last
    # rows, and all words that end no later are sums of these.
    backwards = [(place - 1 - k) % n for k in range(n)]
    ordered = plain_of(q, [marks_at(row, backwards) for row in basis])
    ends = [backwards[head_of(row)] for row in ordered if row[-1] != 0]
    return (place, ends[-1])


def rows_within(book, stretch):
    """The plain tuple whose sums are the words of a book within the places of a stretch."""
    return within(book, tuple(sorted(places_in(book[1], stretch))))[2]


def words_over(book, stretch):
    """The ascending tuple of all words that lie over a stretch and have 1 where it begins."""
    check_book(book)
    q, n, _ = book
    check_stretch(n, stretch)
    words = sums_of(q, n, rows_within(book, stretch))
    return tuple([word for word in words if word[stretch[0]] == 1 and is_over(word, stretch)])
