"""Books, stairs and values of any kind that the tests go through."""

from tests import oracles

EVEN = (2, 4, ((1, 0, 0, 1), (0, 1, 0, 1), (0, 0, 1, 1)))
PAIRS = (2, 4, ((1, 0, 1, 0), (0, 1, 0, 1)))
PASS = ((1, 0, 1), (0, 1, 1))
OPEN = (2, (0, 1, 1, 1), (((1, 1),), PASS, PASS, ((1, 1),)))
ROUND = (2, (1, 1, 1, 1), (PASS, PASS, PASS, PASS))
# Its first section has a step to the room (0,) alone: the room (1,) at the time 1 is on no round.
CUT = (2, (0, 1, 1), (((1, 0),), PASS, ((1, 1),)))
LAID = (2, (0, 1, 1), (((1, 1),), PASS, ((1, 1),)))
FIVE = (5, (0, 1), (((1, 1),), ((1, 1),)))
# Trim, but a round from the room (1,) spells noughts, too.
TWICE = (2, (1, 1), (((1, 0, 1), (0, 1, 0)), ((1, 0, 1),)))
# All rooms are on rounds, but the step (0, 0, 1) of the place 0 is on none.
SPARE = (2, (1, 1), (((1, 0, 0), (0, 1, 0), (0, 0, 1)), ((1, 0, 1),)))
# At the time 1 there are rooms, but no section has a row.
BARE = (3, (0, 2), ((), ()))
STILL = (5, (0, 0, 0), ((), ((1,),), ()))


class Dice:
    """Numbers that look thrown and are the same in every run."""

    def __init__(self, seed):
        self.state = seed

    def throw(self, sides):
        self.state = (self.state * 6364136223846793005 + 1442695040888963407) % 2 ** 64
        return (self.state >> 33) % sides

    def row(self, q, n):
        return tuple(self.throw(q) for _ in range(n))

    def rows(self, q, n, count):
        return tuple(self.row(q, n) for _ in range(count))

    def stair(self, q, sizes):
        """A stair whose sections have from no row to as many as there are marks."""
        sections = []
        for place in range(len(sizes)):
            width = oracles.width(sizes, place)
            sections.append(oracles.plain(q, width, self.rows(q, width, self.throw(width + 1))))
        return (q, sizes, tuple(sections))


def some_rows():
    """(q, n, rows), with rows that are not free, are noughts, come twice, or are none."""
    dice = Dice(11)
    found = []
    for q, lengths in ((2, (2, 3, 4, 5, 6)), (3, (2, 3, 4)), (5, (2, 3))):
        for n in lengths:
            for count in range(n + 3):
                found.append((q, n, dice.rows(q, n, count)))
            found.append((q, n, ((0,) * n,)))
            found.append((q, n, ((q - 1,) * n,) * 3))
    return found


def whole(q, n):
    return (q, n, tuple(tuple(int(at == place) for at in range(n)) for place in range(n)))


def some_books():
    found = [EVEN, PAIRS]
    for q, n, rows in some_rows():
        found.append((q, n, oracles.plain(q, n, rows)))
    for q, n in ((2, 2), (2, 5), (3, 3), (5, 2)):
        found.append((q, n, ()))
        found.append(whole(q, n))
    return sorted(set(found))


def largest_books():
    """Books with the most rows that the limits let be, of the dimensions 0, n and between."""
    dice = Dice(5)
    found = []
    for q, n in ((2, 12), (3, 7), (5, 5)):
        found.extend([(q, n, ()), whole(q, n)])
        found.append((q, n, oracles.plain(q, n, dice.rows(q, n, n // 2))))
    return found


def some_stairs():
    """Stairs with few enough ways that all of them can be gone."""
    dice = Dice(7)
    found = [OPEN, ROUND, CUT, LAID, FIVE, TWICE, SPARE, BARE, STILL]
    shapes = ((2, (0, 0)), (2, (1, 1)), (2, (2, 1)), (2, (1, 0, 2)), (2, (2, 1, 1)), (2, (1, 1, 1, 1)),
              (2, (0, 1, 2, 1)), (3, (1, 1)), (3, (0, 1)), (3, (1, 0, 1)), (3, (1, 1, 1)), (5, (1, 0)), (5, (1, 1)))
    for q, sizes in shapes:
        for _ in range(6):
            found.append(dice.stair(q, sizes))
    return found


def largest_stairs():
    """Stairs at the limits: the most places, rooms, sizes and steps."""
    dice = Dice(3)
    found = []
    for q, n, size in ((2, 12, 2), (3, 7, 3), (5, 5, 2)):
        along = []
        for place in range(n):
            rooms = [tuple(int(at in (k, k + size + 1)) for at in range(2 * size + 1)) for k in range(size)]
            marked = dice.row(q, size)
            rooms.append((0,) * size + (1,) + marked)
            along.append(oracles.plain(q, 2 * size + 1, rooms))
        found.append((q, (size,) * n, tuple(along)))
    found.append((2, (5, 6), (whole(2, 12)[2], whole(2, 12)[2])))
    found.append((2, (6, 5, 6, 0), (whole(2, 12)[2], whole(2, 12)[2], whole(2, 7)[2], ())))
    return found


def deep(wrap):
    """A value that is wrapped eight times."""
    value = 1
    for _ in range(8):
        value = wrap(value)
    return value


def any_values():
    """Values of any kind as [0.2] tells them, made anew at each call."""
    return [
        None, True, False, 0, 1, 2, 3, 4, 5, 6, 7, 12, 13, -1, -2, 10 ** 39, -10 ** 39,
        "", "2", "round", "against", "x" * 200, (), [], {}, (0,), (1,), [2], {2: 3}, ((),), [()], ("round",),
        (True,), (0, True), (0, 1), (0, 0), [0, 1], (1, 0), (0, 1, 2), (0, 1, 2, 3), (1, 1, 1, 1), [1, 1, 1, 1],
        (0, 0, 0, 0, 0), (1, 0, 2, 0), (1, 0, None, 0), (1, 0, "0", 0), (1, 0, (0,), 0), (1, 0, -1, 0),
        (2, 4), [2, 4, ()], {0: 2, 1: 4, 2: ()}, {"q": 2, "n": 4, "basis": ()}, (2, 4, []), (2, 4, None),
        (None, None), (None, None, None), ("round", None), ("against", {}), (3, (1, 1), ((), {})),
        deep(lambda value: (value,)), deep(lambda value: [value]), deep(lambda value: {"a": value}),
        (0,) * 3000, [0] * 3000, ((0, 0),) * 1000, {k: (k,) for k in range(1000)}, "abc",
        EVEN, PAIRS, OPEN, ROUND, FIVE, ((1, 0, 1, 0),), (((), (1,), (0,), (0,)), (1, 1, 0, 0)),
        ("round", (((), (1,), (0,), (0,)), (1, 1, 0, 0))), ("against", (1, 1, 1, 1)),
    ]


FEW = (None, True, False, -1, 2, 7, 10 ** 39, "", "1", (), [], {}, (0,), ((0, 0),), {0: 1})


def mangled(value):
    """A value with parts replaced, left out, exchanged or repeated, one at a time."""
    for other in FEW:
        yield other
    if type(value) is int:
        yield bool(value)
        yield value + 1
        yield -value
    if type(value) is tuple:
        yield list(value)
        yield value + value
        yield (value,)
        for k, item in enumerate(value):
            yield value[:k] + value[k + 1:]
            yield value[:k + 1] + value[k:]
            yield value[:k] + value[k + 1:k + 2] + (item,) + value[k + 2:]
            for other in mangled(item):
                yield value[:k] + (other,) + value[k + 1:]
