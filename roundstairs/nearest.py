"""Nearest words by prices, with heights that show that no word has a lesser price."""

from roundstairs.errors import BadPrices, BadRow
from roundstairs.rounds import spelled_basis
from roundstairs.rows import is_int, is_row, is_sum, is_tuple_of, sums_of
from roundstairs.stairs import check_stair
from roundstairs.ways import do_lead, is_heights, laid_steps, least_heights, least_way, room_counts, round_along


def is_prices(stair, thing):
    """Whether a value is prices for a stair."""
    q, sizes, _ = stair
    return is_tuple_of(len(sizes), thing) and all(is_price_row(q, row) for row in thing)


def is_price_row(q, thing):
    """Whether a value is a tuple of an integer for each mark."""
    return is_tuple_of(q, thing) and all(is_int(price) for price in thing)


def check_stair_and_prices(stair, prices):
    check_stair(stair)
    if not is_prices(stair, prices):
        raise BadPrices(prices)


def total_price(prices, word):
    """The price of a row, perhaps of several turns; then the prices stand as often one behind the other."""
    return sum([row[mark] for row, mark in zip(prices, word)])


def price_of(stair, prices, word):
    """The price of a row, whether a stair spells it or not."""
    check_stair_and_prices(stair, prices)
    q, sizes, _ = stair
    if not is_row(q, len(sizes), word):
        raise BadRow(word)
    return total_price(prices, word)


def is_spelled(stair, thing):
    """Whether a value is a word that a stair spells."""
    q, sizes, _ = stair
    return is_row(q, len(sizes), thing) and is_sum(q, spelled_basis(stair), thing)


def heights_by_start(stair, laid):
    """For each room of the time 0 the least heights from it."""
    counts = room_counts(stair)
    return tuple([least_heights(laid, counts, start) for start in range(counts[0])])


def least_closed(heights):
    """(price, room) of a least way that comes back to the room of the time 0 from which it set out."""
    return min([(item[-1][start], start) for start, item in enumerate(heights) if item[-1][start] is not None])


def judge_nearest(stair, prices):
    """A nearest word, and heights from each room of the time 0."""
    check_stair_and_prices(stair, prices)
    laid = laid_steps(stair, prices)
    heights = heights_by_start(stair, laid)
    _, start = least_closed(heights)
    _, word = round_along(stair[1], least_way(laid, heights[start], start))
    return ("nearest", word, heights)


def nearest_holds(stair, prices, thing):
    """Whether any value is a certificate about a stair and prices."""
    check_stair_and_prices(stair, prices)
    if not is_tuple_of(3, thing):
        return False
    kind, word, heights = thing
    if kind != "nearest" or not is_spelled(stair, word):
        return False
    counts = room_counts(stair)
    if not is_tuple_of(counts[0], heights) or not all(is_heights(counts, item) for item in heights):
        return False
    laid = laid_steps(stair, prices)
    least = total_price(prices, word)
    return all([is_bound(laid, start, item, least) for start, item in enumerate(heights)])


def is_bound(laid, start, heights, least):
    """Whether heights show that no way from a room at the time 0 back to it has a price below the least."""
    alone = [height == 0 if room == start else height is None for room, height in enumerate(heights[0])]
    end = heights[-1][start]
    return all(alone) and (end is None or end >= least) and do_lead(laid, heights)


def priced_words(stair, prices):
    """(price, word) for all words that a stair spells, the words ascending."""
    q, sizes, _ = stair
    return [(total_price(prices, word), word) for word in sums_of(q, len(sizes), spelled_basis(stair))]


def nearest_words(stair, prices):
    """The ascending tuple of all words of the least price."""
    check_stair_and_prices(stair, prices)
    priced = priced_words(stair, prices)
    least = min([price for price, _ in priced])
    return tuple([word for price, word in priced if price == least])


def mark_prices(stair, prices):
    """For each mark at each place the least price of a word that has it there, None if there is none."""
    check_stair_and_prices(stair, prices)
    q, sizes, _ = stair
    priced = priced_words(stair, prices)
    return tuple([least_by_mark(q, priced, place) for place in range(len(sizes))])


def least_by_mark(q, priced, place):
    """For each mark the least price of a word with this mark at a place, None if there is none."""
    return tuple([min([price for price, word in priced if word[place] == mark], default=None) for mark in range(q)])
