"""Long rounds of several turns, their least mean, and whether going round once is enough."""

from math import gcd

from roundstairs.nearest import check_stair_and_prices, heights_by_start, is_spelled, least_closed, total_price
from roundstairs.rounds import is_round_of, repeated
from roundstairs.rows import is_int, is_tuple_of
from roundstairs.stairs import check_stair
from roundstairs.ways import do_lead, is_heights, laid_steps, least_heights, least_way, room_counts, round_along


def is_long_round(stair, thing):
    """Whether any value is a long round of a stair, of one turn or more."""
    check_stair(stair)
    if not is_tuple_of(2, thing) or not isinstance(thing[1], tuple):
        return False
    m = len(thing[1]) // len(stair[1])
    return m > 0 and is_round_of(repeated(stair, m), thing)


def fraction_of(top, bottom):
    """The fraction that is a number by one above 0."""
    divisor = gcd(top, bottom)
    return (top // divisor, bottom // divisor)


def total_and_turns(prices, word):
    """The price of the word of a long round, and its number of turns."""
    m = len(word) // len(prices)
    return (total_price(prices * m, word), m)


def mean_of(prices, word):
    """The mean of a long round, by its word."""
    total, m = total_and_turns(prices, word)
    return fraction_of(total, m)


def least_round(stair, prices):
    """(price, turns, rooms, word) of a long round of the least mean, of as few turns as can be."""
    laid = laid_steps(stair, prices)
    heights = heights_by_start(stair, laid)
    count = len(heights)
    # A whole turn is taken as one step, and the turns as places.
    turn = [(room, item[-1][end], end, (room, end))
            for room, item in enumerate(heights) for end in range(count) if item[-1][end] is not None]
    long_heights = [least_heights([turn] * count, [count] * (count + 1), start) for start in range(count)]
    price, m, start = least_by_turns(long_heights)
    way = []
    for ahead, behind in least_way([turn] * m, long_heights[start], start):
        way.extend(least_way(laid, heights[ahead], behind))
    rooms, word = round_along(stair[1], way)
    return (price, m, rooms, word)


def least_by_turns(long_heights):
    """(price, turns, room) of a least mean of ways that come back to the room from which they set out.

    A long round that passes a room of the time 0 twice falls into two there, of
    which one has no greater mean; so no more turns are needed than there are
    rooms. The fewest turns come first.
    """
    price, turns, room = long_heights[0][1][0], 1, 0
    for m in range(1, len(long_heights) + 1):
        for start, heights in enumerate(long_heights):
            found = heights[m][start]
            if found is not None and found * turns < price * m:
                price, turns, room = found, m, start
    return (price, turns, room)


def lowered(prices, mean):
    """The prices times the bottom of a mean, less its top for each turn: a long round of this mean costs 0."""
    top, bottom = mean
    scaled = [tuple([bottom * price for price in row]) for row in prices]
    return tuple(scaled[:-1]) + (tuple([price - top for price in scaled[-1]]),)


def low_heights(stair, prices, mean):
    """Heights that show that no long round has a mean below the least mean."""
    laid = laid_steps(stair, lowered(prices, mean))
    heights = [[0] * count for count in room_counts(stair)[:-1]]
    # No long round costs less than 0, so this ends once no way lowers a height.
    changed = True
    while changed:
        changed = False
        for place, steps in enumerate(laid):
            ahead = heights[place]
            behind = heights[(place + 1) % len(laid)]
            for room, price, target, _ in steps:
                if ahead[room] + price < behind[target]:
                    behind[target] = ahead[room] + price
                    changed = True
    return tuple([tuple(row) for row in heights])


def is_low(stair, prices, mean, thing):
    """Whether a value is heights that show that no long round has a mean below a told one."""
    if not is_heights(room_counts(stair)[:-1], thing) or any(None in row for row in thing):
        return False
    return do_lead(laid_steps(stair, lowered(prices, mean)), thing + thing[:1])


def judge_mean(stair, prices):
    """The least mean, a long round that has it, and heights."""
    check_stair_and_prices(stair, prices)
    price, m, rooms, word = least_round(stair, prices)
    mean = fraction_of(price, m)
    return ("mean", mean, rooms, word, low_heights(stair, prices, mean))


def mean_holds(stair, prices, thing):
    """Whether any value is a certificate about the least mean."""
    check_stair_and_prices(stair, prices)
    if not is_tuple_of(5, thing) or thing[0] != "mean" or not is_long_round(stair, thing[2:4]):
        return False
    _, mean, _, word, heights = thing
    if not is_tuple_of(2, mean) or not all(is_int(part) for part in mean):
        return False
    return mean == mean_of(prices, word) and is_low(stair, prices, mean, heights)


def least_mean(stair, prices):
    """The least mean of all long rounds, as a fraction."""
    check_stair_and_prices(stair, prices)
    price, m, _, _ = least_round(stair, prices)
    return fraction_of(price, m)


def judge_turns(stair, prices):
    """A word whose price is the least mean, with heights, or a long round of a lesser mean than all words."""
    check_stair_and_prices(stair, prices)
    price, m, rooms, word = least_round(stair, prices)
    if m == 1:
        return ("word", word, low_heights(stair, prices, (price, 1)))
    return ("round", rooms, word)


def turns_hold(stair, prices, thing):
    """Whether any value is a certificate about going round once or several times."""
    check_stair_and_prices(stair, prices)
    if not is_tuple_of(3, thing):
        return False
    if thing[0] == "word":
        return is_spelled(stair, thing[1]) and is_low(stair, prices, (total_price(prices, thing[1]), 1), thing[2])
    return thing[0] == "round" and is_long_round(stair, thing[1:]) and is_below_words(stair, prices, thing[2])


def is_below_words(stair, prices, word):
    """Whether the mean of a long round, by its word, is less than the price of each word that a stair spells."""
    total, m = total_and_turns(prices, word)
    least, _ = least_closed(heights_by_start(stair, laid_steps(stair, prices)))
    return total < least * m


def fewest_turns(stair, prices):
    """The fewest turns of a long round that has the least mean."""
    check_stair_and_prices(stair, prices)
    return least_round(stair, prices)[1]
