"""Stairs round the ring, what they spell, and certificates about their words."""

from roundstairs.books import is_length
from roundstairs.errors import BadPlace, BadRow, BadStair, BadTime
from roundstairs.rounds import (
    is_round_of, missed_by_rounds, round_from, round_rows, round_spelling, spelled_basis, step_width)
from roundstairs.rows import (
    is_field, is_int_from, is_plain, is_row, is_tuple_of, meet, partner_rows, sums_of, unit_rows)

GREATEST_SIZE = 6


def is_sizes(thing):
    """Whether a value is the sizes of a stair."""
    if not isinstance(thing, tuple) or not is_length(len(thing)):
        return False
    return all(is_int_from(0, GREATEST_SIZE, size) for size in thing)


def is_sections(q, sizes, thing):
    """Whether a value is the sections of a stair of some sizes."""
    if not is_tuple_of(len(sizes), thing):
        return False
    return all([is_plain(q, step_width(sizes, place), section) for place, section in enumerate(thing)])


def is_stair(thing):
    if not is_tuple_of(3, thing):
        return False
    q, sizes, sections = thing
    return is_field(q) and is_sizes(sizes) and is_sections(q, sizes, sections)


def check_stair(stair):
    if not is_stair(stair):
        raise BadStair(stair)


def rooms_of(stair, time):
    """The ascending tuple of all rooms at a time."""
    check_stair(stair)
    q, sizes, _ = stair
    if not is_int_from(0, len(sizes) - 1, time):
        raise BadTime(time)
    size = sizes[time]
    return sums_of(q, size, unit_rows(size, list(range(size))))


def steps_of(stair, place):
    """The ascending tuple of all steps of a place."""
    check_stair(stair)
    q, sizes, sections = stair
    if not is_int_from(0, len(sizes) - 1, place):
        raise BadPlace(place)
    return sums_of(q, step_width(sizes, place), sections[place])


def is_round(stair, thing):
    """Whether any value is a round of a stair."""
    check_stair(stair)
    return is_round_of(stair, thing)


def round_count(stair):
    """How many free rounds there are of which all rounds are sums of multiples."""
    check_stair(stair)
    return len(round_rows(stair))


def rounds_of(stair):
    """A tuple of free rounds of which all rounds are sums of multiples."""
    check_stair(stair)
    return tuple([round_from(stair[1], row) for row in round_rows(stair)])


def spelled(stair):
    """The book that a stair spells."""
    check_stair(stair)
    q, sizes, _ = stair
    return (q, len(sizes), spelled_basis(stair))


def is_sharp(stair):
    """Whether just one round of a stair spells noughts."""
    check_stair(stair)
    return len(round_rows(stair)) == len(spelled_basis(stair))


def is_trim(stair):
    """Whether each room and each step of a stair is on some round."""
    check_stair(stair)
    return missed_by_rounds(stair) is None


def check_stair_and_row(stair, row):
    check_stair(stair)
    q, sizes, _ = stair
    if not is_row(q, len(sizes), row):
        raise BadRow(row)


def judge_word(stair, row):
    """A round that spells a row, or a row of the partner that bars it."""
    check_stair_and_row(stair, row)
    found = round_spelling(stair, row)
    if found is not None:
        return ("round", found)
    q, sizes, _ = stair
    bars = partner_rows(q, len(sizes), spelled_basis(stair))
    barring = [bar for bar in bars if meet(q, row, bar) != 0]
    return ("against", barring[0])


def word_holds(stair, row, thing):
    """Whether any value is a certificate about a stair and a row."""
    check_stair_and_row(stair, row)
    if not is_tuple_of(2, thing):
        return False
    kind, shown = thing
    if kind == "round":
        return is_round_of(stair, shown) and shown[1] == row
    return kind == "against" and does_bar(stair, row, shown)


def does_bar(stair, row, thing):
    """Whether any value is a row of the partner that doesn't meet a row in 0."""
    q, sizes, _ = stair
    if not is_row(q, len(sizes), thing) or meet(q, row, thing) == 0:
        return False
    return all([meet(q, word, thing) == 0 for word in spelled_basis(stair)])
