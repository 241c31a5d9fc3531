"""The document's definitions, word by word and by going through everything.

Nothing here uses the package, so that a fault of the package can't hide itself.
"""

from itertools import product

FIELDS = (2, 3, 5)


def is_int(thing):
    return type(thing) is int


def all_rows(q, n):
    return list(product(range(q), repeat=n))


def meet(q, row, other):
    return sum(a * b for a, b in zip(row, other)) % q


def sums(q, n, rows):
    """The set of all sums of multiples of some rows of n marks."""
    found = {(0,) * n}
    for row in rows:
        found = {tuple((a + k * b) % q for a, b in zip(start, row)) for start in found for k in range(q)}
    return found


def is_free(q, n, rows):
    """Whether no sum of multiples is noughts but that with all multiples 0."""
    for factors in product(range(q), repeat=len(rows)):
        total = tuple(sum(k * row[at] for k, row in zip(factors, rows)) % q for at in range(n))
        if any(factors) and not any(total):
            return False
    return True


def count_of(q, rows):
    """How many free rows a set of all sums comes from."""
    count = 0
    while q ** count < len(rows):
        count += 1
    assert q ** count == len(rows)
    return count


def is_row(q, n, thing):
    return type(thing) is tuple and len(thing) == n and all(is_int(m) and 0 <= m < q for m in thing)


def head(row):
    return min(at for at, mark in enumerate(row) if mark != 0)


def is_plain(q, n, thing):
    if type(thing) is not tuple or not all(is_row(q, n, row) and any(row) for row in thing):
        return False
    for k, row in enumerate(thing):
        if row[head(row)] != 1:
            return False
        if k > 0 and head(row) <= head(thing[k - 1]):
            return False
        if any(other[head(row)] != 0 for j, other in enumerate(thing) if j != k):
            return False
    return True


def plain(q, n, rows):
    """The plain tuple with the same sums, picked out of the set of all sums."""
    words = [row for row in sums(q, n, rows) if any(row)]
    heads = sorted({head(row) for row in words})
    found = []
    for at in heads:
        fit = [row for row in words if head(row) == at and row[at] == 1 and not any(row[h] for h in heads if h != at)]
        assert len(fit) == 1
        found.append(fit[0])
    return tuple(found)


def is_book(thing):
    if type(thing) is not tuple or len(thing) != 3:
        return False
    q, n, basis = thing
    return is_int(q) and q in FIELDS and is_int(n) and 2 <= n <= 12 and is_plain(q, n, basis)


def words(book):
    return sums(*book)


def partner_words(q, n, rows):
    """All rows that meet each of some rows, and so all their sums, in 0."""
    return {row for row in all_rows(q, n) if all(meet(q, row, other) == 0 for other in rows)}


def is_places(n, thing):
    if type(thing) is not tuple or not all(is_int(p) and 0 <= p < n for p in thing):
        return False
    return list(thing) == sorted(set(thing))


def width(sizes, place):
    return sizes[place] + 1 + sizes[(place + 1) % len(sizes)]


def is_stair(thing):
    if type(thing) is not tuple or len(thing) != 3:
        return False
    q, sizes, sections = thing
    if not is_int(q) or q not in FIELDS or type(sizes) is not tuple or not 2 <= len(sizes) <= 12:
        return False
    if not all(is_int(size) and 0 <= size <= 6 for size in sizes):
        return False
    if type(sections) is not tuple or len(sections) != len(sizes):
        return False
    return all(is_plain(q, width(sizes, place), section) for place, section in enumerate(sections))


def steps(stair, place):
    """The steps of a place as triples of a room, a mark and a room."""
    q, sizes, sections = stair
    size = sizes[place]
    rows = sums(q, width(sizes, place), sections[place])
    return [(row[:size], row[size], row[size + 1:]) for row in rows]


def rounds(stair):
    """All rounds, found by going round step by step from each room at the time 0."""
    q, sizes, _ = stair
    doors = []
    for place in range(len(sizes)):
        ways = {}
        for room, mark, target in steps(stair, place):
            ways.setdefault(room, []).append((mark, target))
        doors.append(ways)
    found = []
    for start in all_rows(q, sizes[0]):
        paths = [((start,), ())]
        for ways in doors:
            paths = [(rooms + (target,), word + (mark,))
                     for rooms, word in paths for mark, target in ways.get(rooms[-1], [])]
        found.extend((rooms[:-1], word) for rooms, word in paths if rooms[-1] == start)
    return found


def flat(lap):
    """All marks of a round in one row."""
    rooms, word = lap
    return sum(rooms, ()) + word


def is_trim(stair, laps):
    """Whether each room and each step is on some of these rounds, the rounds of a stair."""
    q, sizes, _ = stair
    n = len(sizes)
    for place in range(n):
        if {rooms[place] for rooms, _ in laps} != set(all_rows(q, sizes[place])):
            return False
        gone = {(rooms[place], word[place], rooms[(place + 1) % n]) for rooms, word in laps}
        if gone != set(steps(stair, place)):
            return False
    return True


def certificates(stair, row, laps):
    """All right certificates about a row, from the rounds of a stair."""
    q, sizes, _ = stair
    found = [("round", lap) for lap in laps if lap[1] == row]
    bars = partner_words(q, len(sizes), {word for _, word in laps})
    return found + [("against", bar) for bar in sorted(bars) if meet(q, row, bar) != 0]
