"""Books: all sums of multiples of a few rows."""

from roundstairs.errors import BadBook, BadField, BadLength, BadPlaces, BadRow
from roundstairs.rows import (
    is_field, is_int_from, is_plain, is_row, is_sum, is_tuple_of, partner_rows, plain_of, sums_of, unit_rows)

FEWEST_PLACES = 2
MOST_PLACES = 12


def is_length(thing):
    """Whether a value is a number of places."""
    return is_int_from(FEWEST_PLACES, MOST_PLACES, thing)


def is_book(thing):
    if not is_tuple_of(3, thing):
        return False
    q, n, basis = thing
    return is_field(q) and is_length(n) and is_plain(q, n, basis)


def check_book(book):
    if not is_book(book):
        raise BadBook(book)


def book_of(q, n, rows):
    """The book whose words are all sums of multiples of some rows."""
    if not is_field(q):
        raise BadField(q)
    if not is_length(n):
        raise BadLength(n)
    if not isinstance(rows, tuple):
        raise BadRow(rows)
    for row in rows:
        if not is_row(q, n, row):
            raise BadRow(row)
    return (q, n, plain_of(q, rows))


def dimension(book):
    """How many rows the basis of a book has."""
    check_book(book)
    return len(book[2])


def words_of(book):
    """The ascending tuple of all words of a book."""
    check_book(book)
    q, n, basis = book
    return sums_of(q, n, basis)


def has_word(book, row):
    """Whether a row is a word of a book."""
    check_book(book)
    q, n, basis = book
    if not is_row(q, n, row):
        raise BadRow(row)
    return is_sum(q, basis, row)


def partner_of(book):
    """The book of all rows that meet each word of a book in 0."""
    check_book(book)
    q, n, basis = book
    return (q, n, partner_rows(q, n, basis))


def is_places(n, thing):
    """Whether a value is an ascending tuple of places out of n."""
    if not isinstance(thing, tuple) or not all(is_int_from(0, n - 1, place) for place in thing):
        return False
    return all([ahead < behind for ahead, behind in zip(thing, thing[1:])])


def within(book, places):
    """The book of the words that have 0 at all places but some."""
    check_book(book)
    q, n, basis = book
    if not is_places(n, places):
        raise BadPlaces(places)
    others = [place for place in range(n) if place not in places]
    # A row has 0 at a place exactly if it meets the unit row of the place in 0.
    bars = list(partner_rows(q, n, basis)) + unit_rows(n, others)
    return (q, n, partner_rows(q, n, bars))
