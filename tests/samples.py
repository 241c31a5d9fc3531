"""Books, stairs and values of any kind that the tests go through."""

from tests import oracles

EVEN = (2, 4, ((1, 0, 0, 1), (0, 1, 0, 1), (0, 0, 1, 1)))
PAIRS = (2, 4, ((1, 0, 1, 0), (0, 1, 0, 1)))
# A making of EVEN.
MAKING = (((1, 1, 0, 0), (0, 1)), ((0, 1, 1, 0), (1, 2)), ((0, 0, 1, 1), (2, 3)))
PASS = ((1, 0, 1), (0, 1, 1))
OPEN = (2, (0, 1, 1, 1), (((1, 1),), PASS, PASS, ((1, 1),)))
ROUND = (2, (1, 1, 1, 1), (PASS, PASS, PASS, PASS))
# Its first section has a step to the room (0,) alone: the room (1,) at the time 1 is on no round.
CUT = (2, (0, 1, 1), (((1, 0),), PASS, ((1, 1),)))
LAID = (2, (0, 1, 1), (((1, 1),), PASS, ((1, 1),)))
FIVE = (5, (0, 1), (((1, 1),), ((1, 1),)))
# Trim, but a round from the room (1,) spells noughts, too.
TWICE = (2, (1, 1), (((1, 0, 1), (0, 1, 0)), ((1, 0, 1),)))
# All rooms are on rounds, but the step (0, 0, 1) of the place 0 is on none.
SPARE = (2, (1, 1), (((1, 0, 0), (0, 1, 0), (0, 0, 1)), ((1, 0, 1),)))
# At the time 1 there are rooms, but no section has a row.
BARE = (3, (0, 2), ((), ()))
STILL = (5, (0, 0, 0), ((), ((1,),), ()))
# Both kinds of rooms can be kept for a whole turn, so two turns can do what one can't.
RING = (2, (1, 1, 1), (PASS, PASS, PASS))
DEAR = ((0, -2), (0, 9), (0, 9))
COINS = ((0, 3), (0, 1), (2, 0))


class Dice:
    """Numbers that look thrown and are the same in every run."""

    def __init__(self, seed):
        self.state = seed

    def throw(self, sides):
        self.state = (self.state * 6364136223846793005 + 1442695040888963407) % 2 ** 64
        return (self.state >> 33) % sides

    def row(self, q, n):
        return tuple(self.throw(q) for _ in range(n))

    def rows(self, q, n, count):
        return tuple(self.row(q, n) for _ in range(count))

    def stair(self, q, sizes):
        """A stair whose sections have from no row to as many as there are marks."""
        sections = []
        for place in range(len(sizes)):
            width = oracles.width(sizes, place)
            sections.append(oracles.plain(q, width, self.rows(q, width, self.throw(width + 1))))
        return (q, sizes, tuple(sections))


def some_rows():
    """(q, n, rows), with rows that are not free, are noughts, come twice, or are none."""
    dice = Dice(11)
    found = []
    for q, lengths in ((2, (2, 3, 4, 5, 6)), (3, (2, 3, 4)), (5, (2, 3))):
        for n in lengths:
            for count in range(n + 3):
                found.append((q, n, dice.rows(q, n, count)))
            found.append((q, n, ((0,) * n,)))
            found.append((q, n, ((q - 1,) * n,) * 3))
    return found


def whole(q, n):
    return (q, n, tuple(tuple(int(at == place) for at in range(n)) for place in range(n)))


def some_books():
    found = [EVEN, PAIRS]
    for q, n, rows in some_rows():
        found.append((q, n, oracles.plain(q, n, rows)))
    for q, n in ((2, 2), (2, 5), (3, 3), (5, 2)):
        found.append((q, n, ()))
        found.append(whole(q, n))
    return sorted(set(found))


def largest_books():
    """Books with the most rows that the limits let be, of the dimensions 0, n and between."""
    dice = Dice(5)
    found = []
    for q, n in ((2, 12), (3, 7), (5, 5)):
        found.extend([(q, n, ()), whole(q, n)])
        found.append((q, n, oracles.plain(q, n, dice.rows(q, n, n // 2))))
    return found


def some_stairs():
    """Stairs with few enough ways that all of them can be gone."""
    dice = Dice(7)
    found = [OPEN, ROUND, CUT, LAID, FIVE, TWICE, SPARE, BARE, STILL]
    shapes = ((2, (0, 0)), (2, (1, 1)), (2, (2, 1)), (2, (1, 0, 2)), (2, (2, 1, 1)), (2, (1, 1, 1, 1)),
              (2, (0, 1, 2, 1)), (3, (1, 1)), (3, (0, 1)), (3, (1, 0, 1)), (3, (1, 1, 1)), (5, (1, 0)), (5, (1, 1)))
    for q, sizes in shapes:
        for _ in range(6):
            found.append(dice.stair(q, sizes))
    return found


def largest_stairs():
    """Stairs at the limits: the most places, rooms, sizes and steps."""
    dice = Dice(3)
    found = []
    for q, n, size in ((2, 12, 2), (3, 7, 3), (5, 5, 2)):
        along = []
        for place in range(n):
            rooms = [tuple(int(at in (k, k + size + 1)) for at in range(2 * size + 1)) for k in range(size)]
            marked = dice.row(q, size)
            rooms.append((0,) * size + (1,) + marked)
            along.append(oracles.plain(q, 2 * size + 1, rooms))
        found.append((q, (size,) * n, tuple(along)))
    found.append((2, (5, 6), (whole(2, 12)[2], whole(2, 12)[2])))
    found.append((2, (6, 5, 6, 0), (whole(2, 12)[2], whole(2, 12)[2], whole(2, 7)[2], ())))
    return found


def full_books():
    """Full books with few enough words that all can be gone through."""
    dice = Dice(19)
    found = [EVEN, PAIRS]
    for q, n, count in ((2, 2, 1), (2, 3, 8), (2, 4, 12), (2, 5, 16), (2, 6, 10), (3, 2, 2), (3, 3, 8), (3, 4, 8),
                        (5, 2, 4), (5, 3, 6)):
        picked = []
        while len(picked) < count:
            book = (q, n, oracles.plain(q, n, dice.rows(q, n, 1 + dice.throw(n - 1))))
            if oracles.is_full(book):
                picked.append(book)
        found.extend(picked)
    return sorted(set(found))


def not_full_books():
    """Books with a place at which all words have 0, or all rows of the partner."""
    dead = [(2, 3, ((1, 1, 0),)), (3, 4, ((1, 0, 2, 0), (0, 0, 0, 1))), (5, 2, ()), (2, 12, ())]
    alone = [(2, 3, ((1, 0, 0), (0, 1, 1))), (5, 3, ((1, 0, 4), (0, 1, 0))), (3, 2, ((1, 0), (0, 1)))]
    return dead + alone + [whole(2, 12)]


def largest_full_books():
    """Full books with the most places that the limits of part 5 let be, of many kinds."""
    dice = Dice(23)
    found = []
    for q, n in ((2, 10), (3, 7), (5, 5)):
        ones = (1,) * n
        pairs = tuple(tuple(int(at in (k, k + 1)) * (1 if at == k else q - 1) for at in range(n)) for k in range(n - 1))
        found.extend([(q, n, (ones,)), (q, n, oracles.plain(q, n, pairs))])
        tried = [dice.rows(q, n, count) for count in range(2, n) for _ in range(3)]
        # All turned rows of one: many of the stretches have too few words between them.
        for start in ((1, 1, 0, 1), (1, 0, 1), (1, 1, 1, 1, 1), (1, 0, 1, 1)):
            row = (start + (0,) * n)[:n]
            tried.append(tuple(row[k:] + row[:k] for k in range(n)))
        for k in range(2, n):
            tried.append(tuple(tuple(int(at % k == j % k) for at in range(n)) for j in range(n)))
        books = [(q, n, oracles.plain(q, n, rows)) for rows in tried]
        found.extend(book for book in books if oracles.is_full(book))
    return sorted(set(found))


def free_rows(dice, q, n, count):
    """So many free rows of n marks, thrown."""
    rows = ()
    while len(rows) < count:
        row = dice.row(q, n)
        if row not in oracles.sums(q, n, rows):
            rows = rows + (row,)
    return rows


def laid_apart(dice, q, n, stretches):
    """A stair that is told apart by rounds on these stretches, () for all times, and the parts by which it is."""
    passing = [[at for at, stretch in enumerate(stretches) if stretch == () or time in oracles.inner_times(n, stretch)]
               for time in range(n)]
    tables = [free_rows(dice, q, len(parts), len(parts)) for parts in passing]
    told = []
    for at, stretch in enumerate(stretches):
        rooms = tuple(tables[time][passing[time].index(at)] if at in passing[time] else (0,) * len(passing[time])
                      for time in range(n))
        places = range(n) if stretch == () else oracles.places_in(n, stretch)
        word = tuple(dice.throw(q) if place in places else 0 for place in range(n))
        if len(places) == 1:
            word = tuple(int(place in places) for place in range(n))
        told.append((stretch, rooms, word))
    sizes = tuple(len(parts) for parts in passing)
    sections = []
    for place in range(n):
        steps = [oracles.lap_steps(part[1:])[place] for part in told]
        sections.append(oracles.plain(q, oracles.width(sizes, place), steps))
    return (q, sizes, tuple(sections)), tuple(told)


def told_stairs():
    """Trim stairs of few rooms, each with the parts by which it was laid."""
    dice = Dice(31)
    found = []
    shapes = [(q, n, count) for q, n in ((2, 2), (2, 3), (2, 4), (2, 5), (3, 2), (3, 3), (5, 2)) for count in range(5)]
    for q, n, count in shapes:
        if q ** count > 100:
            continue
        for _ in range(4):
            stretches = []
            for _ in range(count):
                a, b = dice.throw(n), dice.throw(n)
                alone = a == b
                if dice.throw(5) == 0:
                    stretches.append(())
                elif not alone or (a, b) not in stretches:
                    stretches.append((a, b))
            found.append(laid_apart(dice, q, n, stretches))
    return found


def largest_told_stairs():
    """Trim stairs at the limits, with up to 12 places and sizes up to 6, each with its parts."""
    dice = Dice(37)
    alone = [(k, k) for k in range(12)]
    passing = [(k, (k + 1) % 12) for k in range(12)]
    return [
        laid_apart(dice, 2, 12, [(), ()]),
        laid_apart(dice, 2, 12, passing + passing),
        laid_apart(dice, 2, 12, [()] + passing + alone),
        laid_apart(dice, 2, 12, [(0, 11), (4, 3)] + alone[::3]),
        laid_apart(dice, 2, 12, [(k, (k + 4) % 12) for k in range(0, 12, 2)]),
        laid_apart(dice, 2, 12, [(9, 1)] * 6),
        laid_apart(dice, 2, 4, [(), (), (), (0, 3), (1, 0), (2, 1), (3, 2)]),
        laid_apart(dice, 3, 7, [(), (0, 6), (3, 2)]),
        laid_apart(dice, 5, 5, [(), (0, 4), (2, 2), (3, 3)]),
    ]


def some_prices(dice, q, n):
    """Prices that are all 0, the same for all marks, thrown, below 0, great, and other than 0 at one place alone."""
    thrown = tuple(tuple(dice.throw(7) - 3 for _ in range(q)) for _ in range(n))
    low = tuple(tuple(-dice.throw(4) for _ in range(q)) for _ in range(n))
    great = tuple(tuple((dice.throw(3) - 1) * 10 ** 6 for _ in range(q)) for _ in range(n))
    place = dice.throw(n)
    alone = tuple(tuple(mark * (1 - 2 * dice.throw(2)) if at == place else 0 for mark in range(q)) for at in range(n))
    return [((0,) * q,) * n, ((5,) * q,) * n, thrown, low, great, alone]


def shifted(q, factors):
    """A stair of two places that leads the rooms in circles.

    At the place 0 the marks of a room move ahead by one and the sum of all of
    them, each times its factor, comes behind them; the step has the mark that
    was the first one. At the place 1 all rooms are kept.
    """
    size = len(factors)
    units = [tuple(int(at == k) for at in range(size)) for k in range(size)]
    moved = [unit + unit[:1] + unit[1:] + (factor,) for unit, factor in zip(units, factors)]
    kept = [unit + (0,) + unit for unit in units]
    sections = (oracles.plain(q, 2 * size + 1, moved), oracles.plain(q, 2 * size + 1, kept))
    return (q, (size, size), sections)


def circling_stairs():
    """(stair, prices) in which one turn is often not enough: mostly the rooms are led to other ones."""
    dice = Dice(43)
    stairs = [RING, shifted(2, (1, 1)), shifted(2, (1, 0)), shifted(3, (1, 1)), shifted(5, (2,)), shifted(2, (1, 1, 0))]
    for q, n, size in ((2, 2, 2), (2, 3, 2), (2, 2, 3), (3, 2, 1), (3, 3, 1), (3, 2, 2), (5, 2, 1), (5, 3, 1)) * 5:
        sections = []
        for _ in range(n):
            tables = free_rows(dice, q, size, size)
            rows = [tuple(int(at == k) for at in range(size)) + dice.row(q, 1) + row for k, row in enumerate(tables)]
            if dice.throw(4) == 0:
                rows.append(dice.row(q, 2 * size + 1))
            sections.append(oracles.plain(q, 2 * size + 1, rows))
        stairs.append((q, (size,) * n, tuple(sections)))
    found = []
    for stair in stairs:
        for _ in range(3):
            # The mark 0 costs the most, so that the round of noughts is dear.
            prices = [(dice.throw(3),) + tuple(-dice.throw(6) for _ in range(stair[0] - 1)) for _ in stair[1]]
            found.append((stair, tuple(prices)))
    return found


def largest_priced_stairs():
    """Stairs at the limits of parts 9 and 10: the most places, rooms and steps, and circles of many turns."""
    dice = Dice(41)
    found = [shifted(2, (1, 1, 0, 0)), shifted(3, (1, 1)), shifted(5, (2,)), (2, (4, 4), (whole(2, 9)[2][:8],) * 2)]
    for q, sizes, count in ((2, (4,) * 6, 8), (2, (4,) * 6 + (0,) * 6, 8), (2, (2,) * 12, 5), (2, (4, 0) * 6, 5),
                            (3, (2,) * 7, 5), (3, (2,) * 7, 4), (5, (1,) * 5, 3), (5, (1,) * 5, 2)):
        sections = []
        for place in range(len(sizes)):
            width = oracles.width(sizes, place)
            sections.append(oracles.plain(q, width, free_rows(dice, q, width, min(count, width))))
        found.append((q, sizes, tuple(sections)))
    return found


def some_tables(dice, q, sizes):
    return tuple(free_rows(dice, q, size, size) for size in sizes)


def deep(wrap):
    """A value that is wrapped eight times."""
    value = 1
    for _ in range(8):
        value = wrap(value)
    return value


def any_values():
    """Values of any kind as [0.2] tells them, made anew at each call."""
    return [
        None, True, False, 0, 1, 2, 3, 4, 5, 6, 7, 12, 13, -1, -2, 10 ** 39, -10 ** 39,
        "", "2", "round", "against", "x" * 200, (), [], {}, (0,), (1,), [2], {2: 3}, ((),), [()], ("round",),
        (True,), (0, True), (0, 1), (0, 0), [0, 1], (1, 0), (0, 1, 2), (0, 1, 2, 3), (1, 1, 1, 1), [1, 1, 1, 1],
        (0, 0, 0, 0, 0), (1, 0, 2, 0), (1, 0, None, 0), (1, 0, "0", 0), (1, 0, (0,), 0), (1, 0, -1, 0),
        (2, 4), [2, 4, ()], {0: 2, 1: 4, 2: ()}, {"q": 2, "n": 4, "basis": ()}, (2, 4, []), (2, 4, None),
        (None, None), (None, None, None), ("round", None), ("against", {}), (3, (1, 1), ((), {})),
        deep(lambda value: (value,)), deep(lambda value: [value]), deep(lambda value: {"a": value}),
        (0,) * 3000, [0] * 3000, ((0, 0),) * 1000, {k: (k,) for k in range(1000)}, "abc",
        EVEN, PAIRS, OPEN, ROUND, FIVE, ((1, 0, 1, 0),), (((), (1,), (0,), (0,)), (1, 1, 0, 0)),
        ("round", (((), (1,), (0,), (0,)), (1, 1, 0, 0))), ("against", (1, 1, 1, 1)),
        MAKING, list(MAKING), ("lesser", MAKING), ("least",), ["least"], ("tight", (0, 1)), ("tight", [0, 1]),
        ("rows", ((1, 0, 1, 0), (0, 1, 0, 1))), ("rows", (None, [])), ((0, 2), (2, 0)), ((0, 1), (1, 2), (2, 3)),
        ("apart", (((0, 1), ((), (1,), (0,)), (1, 1, 0)), ((1, 2), ((), (0,), (1,)), (0, 1, 1)))), ("apart", [None]),
        ("apart", (((), (), ()), (None, None, None))), ("room", 1, (1,)), ("step", 0, (0, 0, 1)), ("room", [], {}),
        COINS, list(COINS), ((0, 1),) * 4, ((0, 1), (0, True), (0, 1), (0, 1)), ((0, None),) * 4, ((),) * 4,
        ((), ((1,),), ((1,),), ((1,),)), ((), ((True,),), ((1,),), ((1,),)), ((), ((0,),), ((1,),), ((1,),)),
        ("nearest", (0, 1, 1), (((0,), (0, 3), (0, 1), (1,)),)), ("nearest", (0, 0, 0, 0), ((None,),)),
        ("nearest", [], {}), ("mean", (-2, 1), (), (), ()), ("mean", (0, 0), None, (0,), ((0,),)), ("word", (), ()),
        ("mean", (0, 1), ((),) * 4, (0, 0, 0, 0), ((0,), (0, None), (0, 0), (0, 0))),
        ("word", (0, 0, 0, 0), ((0,), (0, 0), (0, 0), (0, 0))), ("round", (((0,),) * 8), (0,) * 8),
        (((), (1,), (0,), (0,)) * 2, (1, 1, 0, 0) * 2), (((), (1,), (0,), (0,)), (1, 1, 0, 0) * 2), ((), ()),
    ]


FEW = (None, True, False, -1, 2, 7, 10 ** 39, "", "1", (), [], {}, (0,), ((0, 0),), {0: 1})


def mangled(value):
    """A value with parts replaced, left out, exchanged or repeated, one at a time."""
    for other in FEW:
        yield other
    if type(value) is int:
        yield bool(value)
        yield value + 1
        yield -value
    if type(value) is tuple:
        yield list(value)
        yield value + value
        yield (value,)
        for k, item in enumerate(value):
            yield value[:k] + value[k + 1:]
            yield value[:k + 1] + value[k:]
            yield value[:k] + value[k + 1:k + 2] + (item,) + value[k + 2:]
            for other in mangled(item):
                yield value[:k] + (other,) + value[k + 1:]
