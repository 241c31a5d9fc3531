"""Free words over stretches, least sizes of a book, and least stairs."""

from roundstairs.books import is_places
from roundstairs.choices import free_choice
from roundstairs.errors import BadSizes, BadStretches
from roundstairs.makings import is_making, is_word_of, sizes_in
from roundstairs.rows import is_free, is_int, is_tuple_of, plain_of, plus
from roundstairs.stairs import spelled
from roundstairs.stretches import check_full, inner_counts, is_over, is_stretch_of, list_of, rows_within


def is_lot(book, thing):
    """Whether a value is a tuple of unlike stretches of the list, not more than the book has free words."""
    _, n, basis = book
    if not isinstance(thing, tuple) or len(thing) > len(basis):
        return False
    told = list_of(book)
    if not all(is_stretch_of(n, stretch) and stretch in told for stretch in thing):
        return False
    return all(thing.count(stretch) == 1 for stretch in thing)


def check_full_and_stretches(book, stretches):
    check_full(book)
    if not is_lot(book, stretches):
        raise BadStretches(stretches)


def rows_over(book, stretch):
    """Free words over a stretch of the list, whose sums are all words within its places."""
    q = book[0]
    a = stretch[0]
    rows = rows_within(book, stretch)
    first = [row for row in rows if row[a] != 0][0]
    # A word within the places that has a mark at one end has one at the other
    # end, too: both ends are those of the shortest stretch.
    return [row if row[a] != 0 else plus(q, row, 1, first) for row in rows]


def judge_rows(book, stretches):
    """Free words over some stretches of the list, or which of these have too few words."""
    check_full_and_stretches(book, stretches)
    return free_choice(book[0], [rows_over(book, stretch) for stretch in stretches])


def rows_hold(book, stretches, thing):
    """Whether any value is a certificate about some stretches of the list."""
    check_full_and_stretches(book, stretches)
    if not is_tuple_of(2, thing):
        return False
    kind, shown = thing
    if kind == "rows":
        return is_free_over(book, stretches, shown)
    return kind == "tight" and is_tight(book, stretches, shown)


def is_free_over(book, stretches, thing):
    """Whether a value is a tuple of free words, one over each of some stretches."""
    if not is_tuple_of(len(stretches), thing) or not all(is_word_of(book, word) for word in thing):
        return False
    return is_free(book[0], thing) and all([is_over(word, stretch) for word, stretch in zip(thing, stretches)])


def is_tight(book, stretches, thing):
    """Whether a value is an ascending tuple of positions whose stretches have too few words."""
    if not is_places(len(stretches), thing):
        return False
    rows = [row for position in thing for row in rows_within(book, stretches[position])]
    return len(plain_of(book[0], rows)) < len(thing)


def is_nowhere_greater(sizes, others):
    return all([size <= other for size, other in zip(sizes, others)])


def lots_by_sum(book):
    """(sum, sizes, lot) for each lot of as many stretches of the list as the book has free words, ascending."""
    _, n, basis = book
    k = len(basis)
    lots = [()]
    for stretch in list_of(book):
        lots = lots + [lot + (stretch,) for lot in lots if len(lot) < k]
    sized = [(inner_counts(n, lot), lot) for lot in lots if len(lot) == k]
    return sorted([(sum(sizes), sizes, lot) for sizes, lot in sized])


def first_making(book, lots):
    """A making with the stretches of the first of some lots that has free words, None if none has."""
    rows = {stretch: rows_over(book, stretch) for stretch in list_of(book)}
    for lot in lots:
        kind, words = free_choice(book[0], [rows[stretch] for stretch in lot])
        if kind == "rows":
            return tuple(zip(words, lot))
    return None


def least_sizes(book):
    """The ascending tuple of the sizes of all least stairs of a book."""
    check_full(book)
    rows = {stretch: rows_over(book, stretch) for stretch in list_of(book)}
    found = []
    # What is below other sizes has a lesser sum, and so it comes ahead of them.
    for _, sizes, lot in lots_by_sum(book):
        if not any(is_nowhere_greater(least, sizes) for least in found):
            if free_choice(book[0], [rows[stretch] for stretch in lot])[0] == "rows":
                found.append(sizes)
    return tuple(sorted(found))


def making_below(book, sizes):
    """A making with stretches of the list whose sizes are nowhere greater, None if there is none."""
    check_full(book)
    if not is_tuple_of(book[1], sizes) or not all(is_int(size) and size >= 0 for size in sizes):
        raise BadSizes(sizes)
    return first_making(book, [lot for _, found, lot in lots_by_sum(book) if is_nowhere_greater(found, sizes)])


def fewest_greatest(book):
    """The least number that is the greatest size of a stair of a book."""
    return min([max(sizes) for sizes in least_sizes(book)])


def fewest_sum(book):
    """The least number that is the sum of all sizes of a stair of a book."""
    return min([sum(sizes) for sizes in least_sizes(book)])


def is_below(sizes, others):
    """Whether sizes are nowhere greater than others, and somewhere less."""
    return sizes != others and is_nowhere_greater(sizes, others)


def full_book_of(stair):
    """The book that a stair spells, which has to be full."""
    book = spelled(stair)
    check_full(book)
    return book


def lesser_making(book, sizes):
    """A making with stretches of the list whose sizes are below told ones, None if there is none."""
    return first_making(book, [lot for _, found, lot in lots_by_sum(book) if is_below(found, sizes)])


def judge_least(stair):
    """Whether a stair is least, or else a making with lesser sizes."""
    book = full_book_of(stair)
    making = lesser_making(book, stair[1])
    if making is None:
        return ("least",)
    return ("lesser", making)


def least_holds(stair, thing):
    """Whether any value is a certificate about a stair and the least sizes of its book."""
    book = full_book_of(stair)
    sizes = stair[1]
    if thing == ("least",):
        return lesser_making(book, sizes) is None
    if not is_tuple_of(2, thing) or thing[0] != "lesser" or not is_making(book, thing[1]):
        return False
    return is_below(sizes_in(book[1], thing[1]), sizes)
