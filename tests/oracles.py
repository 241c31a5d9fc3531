"""The document's definitions, word by word and by going through everything.

Nothing here uses the package, so that a fault of the package can't hide itself.
"""

from fractions import Fraction
from itertools import combinations, product

FIELDS = (2, 3, 5)


def is_int(thing):
    return type(thing) is int


def all_rows(q, n):
    return list(product(range(q), repeat=n))


def meet(q, row, other):
    return sum(a * b for a, b in zip(row, other)) % q


def sums(q, n, rows):
    """The set of all sums of multiples of some rows of n marks."""
    found = {(0,) * n}
    for row in rows:
        found = {tuple((a + k * b) % q for a, b in zip(start, row)) for start in found for k in range(q)}
    return found


def is_free(q, n, rows):
    """Whether no sum of multiples is noughts but that with all multiples 0."""
    for factors in product(range(q), repeat=len(rows)):
        total = tuple(sum(k * row[at] for k, row in zip(factors, rows)) % q for at in range(n))
        if any(factors) and not any(total):
            return False
    return True


def count_of(q, rows):
    """How many free rows a set of all sums comes from."""
    count = 0
    while q ** count < len(rows):
        count += 1
    assert q ** count == len(rows)
    return count


def is_row(q, n, thing):
    return type(thing) is tuple and len(thing) == n and all(is_int(m) and 0 <= m < q for m in thing)


def head(row):
    return min(at for at, mark in enumerate(row) if mark != 0)


def is_plain(q, n, thing):
    if type(thing) is not tuple or not all(is_row(q, n, row) and any(row) for row in thing):
        return False
    for k, row in enumerate(thing):
        if row[head(row)] != 1:
            return False
        if k > 0 and head(row) <= head(thing[k - 1]):
            return False
        if any(other[head(row)] != 0 for j, other in enumerate(thing) if j != k):
            return False
    return True


def plain(q, n, rows):
    """The plain tuple with the same sums, picked out of the set of all sums."""
    words = [row for row in sums(q, n, rows) if any(row)]
    heads = sorted({head(row) for row in words})
    found = []
    for at in heads:
        fit = [row for row in words if head(row) == at and row[at] == 1 and not any(row[h] for h in heads if h != at)]
        assert len(fit) == 1
        found.append(fit[0])
    return tuple(found)


def is_book(thing):
    if type(thing) is not tuple or len(thing) != 3:
        return False
    q, n, basis = thing
    return is_int(q) and q in FIELDS and is_int(n) and 2 <= n <= 12 and is_plain(q, n, basis)


def words(book):
    return sums(*book)


def partner_words(q, n, rows):
    """All rows that meet each of some rows, and so all their sums, in 0."""
    return {row for row in all_rows(q, n) if all(meet(q, row, other) == 0 for other in rows)}


def is_places(n, thing):
    if type(thing) is not tuple or not all(is_int(p) and 0 <= p < n for p in thing):
        return False
    return list(thing) == sorted(set(thing))


def width(sizes, place):
    return sizes[place] + 1 + sizes[(place + 1) % len(sizes)]


def is_stair(thing):
    if type(thing) is not tuple or len(thing) != 3:
        return False
    q, sizes, sections = thing
    if not is_int(q) or q not in FIELDS or type(sizes) is not tuple or not 2 <= len(sizes) <= 12:
        return False
    if not all(is_int(size) and 0 <= size <= 6 for size in sizes):
        return False
    if type(sections) is not tuple or len(sections) != len(sizes):
        return False
    return all(is_plain(q, width(sizes, place), section) for place, section in enumerate(sections))


def steps(stair, place):
    """The steps of a place as triples of a room, a mark and a room."""
    q, sizes, sections = stair
    size = sizes[place]
    rows = sums(q, width(sizes, place), sections[place])
    return [(row[:size], row[size], row[size + 1:]) for row in rows]


def rounds(stair):
    """All rounds, found by going round step by step from each room at the time 0."""
    q, sizes, _ = stair
    doors = []
    for place in range(len(sizes)):
        ways = {}
        for room, mark, target in steps(stair, place):
            ways.setdefault(room, []).append((mark, target))
        doors.append(ways)
    found = []
    for start in all_rows(q, sizes[0]):
        paths = [((start,), ())]
        for ways in doors:
            paths = [(rooms + (target,), word + (mark,))
                     for rooms, word in paths for mark, target in ways.get(rooms[-1], [])]
        found.extend((rooms[:-1], word) for rooms, word in paths if rooms[-1] == start)
    return found


def flat(lap):
    """All marks of a round in one row."""
    rooms, word = lap
    return sum(rooms, ()) + word


def is_trim(stair, laps):
    """Whether each room and each step is on some of these rounds, the rounds of a stair."""
    q, sizes, _ = stair
    n = len(sizes)
    for place in range(n):
        if {rooms[place] for rooms, _ in laps} != set(all_rows(q, sizes[place])):
            return False
        gone = {(rooms[place], word[place], rooms[(place + 1) % n]) for rooms, word in laps}
        if gone != set(steps(stair, place)):
            return False
    return True


def certificates(stair, row, laps):
    """All right certificates about a row, from the rounds of a stair."""
    q, sizes, _ = stair
    found = [("round", lap) for lap in laps if lap[1] == row]
    bars = partner_words(q, len(sizes), {word for _, word in laps})
    return found + [("against", bar) for bar in sorted(bars) if meet(q, row, bar) != 0]


# Parts 3 and 4: stretches and makings.

def places_in(n, stretch):
    a, b = stretch
    found = [a]
    while found[-1] != b:
        found.append((found[-1] + 1) % n)
    return tuple(found)


def inner_times(n, stretch):
    """The time i lies ahead of the place i."""
    return places_in(n, stretch)[1:]


def is_stretch(n, thing):
    return type(thing) is tuple and len(thing) == 2 and all(is_int(p) and 0 <= p < n for p in thing)


def all_stretches(n):
    return [(a, b) for a in range(n) for b in range(n)]


def is_over(row, stretch):
    a, b = stretch
    places = places_in(len(row), stretch)
    return row[a] != 0 and row[b] != 0 and all(row[p] == 0 for p in range(len(row)) if p not in places)


def stretches_of(row):
    return [stretch for stretch in all_stretches(len(row)) if is_over(row, stretch)]


def is_full(book):
    q, n, basis = book
    both = (words(book), partner_words(q, n, basis))
    return all(any(row[p] != 0 for row in rows) for p in range(n) for rows in both)


def stretch_list(book):
    """For each place the shortest stretch that begins there and over which some word lies."""
    _, n, _ = book
    lain = {stretch for word in words(book) for stretch in stretches_of(word)}
    found = []
    for a in range(n):
        found.append(min([stretch for stretch in lain if stretch[0] == a], key=lambda s: len(places_in(n, s))))
    return found


def words_within(book, stretch):
    n = book[1]
    others = [p for p in range(n) if p not in places_in(n, stretch)]
    return [word for word in words(book) if all(word[p] == 0 for p in others)]


def is_making(book, thing):
    q, n, basis = book
    if type(thing) is not tuple or len(thing) != len(basis):
        return False
    for pair in thing:
        if type(pair) is not tuple or len(pair) != 2 or not is_row(q, n, pair[0]) or not is_stretch(n, pair[1]):
            return False
        if pair[0] not in words(book) or not is_over(*pair):
            return False
    return is_free(q, n, [word for word, _ in thing])


def sizes_over(n, stretches):
    return tuple(sum(time in inner_times(n, stretch) for stretch in stretches) for time in range(n))


def making_round(q, n, making, marks):
    """The round that is laid for a choice of marks, one for each pair."""
    rooms = tuple(tuple(mark for mark, (_, stretch) in zip(marks, making) if time in inner_times(n, stretch))
                  for time in range(n))
    word = tuple(sum(mark * row[place] for mark, (row, _) in zip(marks, making)) % q for place in range(n))
    return (rooms, word)


def making_rounds(q, n, making):
    return [making_round(q, n, making, marks) for marks in product(range(q), repeat=len(making))]


# Part 5: free words over stretches, and least sizes.

def is_lot(book, thing):
    """Whether a value is a tuple of unlike stretches of the list, at most as many as the dimension."""
    if type(thing) is not tuple or not all(is_stretch(book[1], stretch) for stretch in thing):
        return False
    return len(set(thing)) == len(thing) <= len(book[2]) and set(thing) <= set(stretch_list(book))


def is_tight(book, stretches, positions):
    """Whether all words within the places of some stretches come from fewer free words."""
    q, n, _ = book
    taken = {word for at in positions for word in words_within(book, stretches[at])}
    return count_of(q, sums(q, n, sorted(taken))) < len(positions)


def row_certificates(book, stretches):
    """All right certificates about some stretches of the list."""
    q, n, _ = book
    over = [[word for word in sorted(words(book)) if is_over(word, stretch)] for stretch in stretches]
    found = [("rows", rows) for rows in product(*over) if is_free(q, n, rows)]
    for count in range(len(stretches) + 1):
        for positions in combinations(range(len(stretches)), count):
            if is_tight(book, stretches, positions):
                found.append(("tight", positions))
    return found


def has_free_words(book, stretches):
    """Whether there are free words over some stretches, one over each; tried one word after the other."""
    q, n, _ = book
    sides = [{(0,) * n}]
    for stretch in stretches:
        over = [word for word in words(book) if is_over(word, stretch)]
        longer = {frozenset(sums(q, n, [*taken, word])) for taken in sides for word in over if word not in taken}
        sides = [set(taken) for taken in longer]
    return bool(sides)


def is_below(sizes, others):
    return sizes != others and all(size <= other for size, other in zip(sizes, others))


def list_sizes(book):
    _, n, basis = book
    lots = combinations(stretch_list(book), len(basis))
    return {sizes_over(n, lot) for lot in lots if has_free_words(book, lot)}


def least_sizes(book):
    every = list_sizes(book)
    return tuple(sorted(sizes for sizes in every if not any(is_below(other, sizes) for other in every)))


# Part 6: stairs told apart, and trimmed stairs. `laps` are the rounds of a stair.

def lap_steps(lap):
    rooms, word = lap
    n = len(word)
    return [rooms[place] + (word[place],) + rooms[(place + 1) % n] for place in range(n)]


def lies_on(lap, stretch):
    rooms, word = lap
    n = len(word)
    times = {time for time in range(n) if any(rooms[time])}
    places = {place for place in range(n) if any(lap_steps(lap)[place])}
    if stretch == ():
        return times == set(range(n))
    return times == set(inner_times(n, stretch)) and places == set(places_in(n, stretch))


def is_told_apart(stair, laps, thing):
    q, sizes, sections = stair
    n = len(sizes)
    if type(thing) is not tuple:
        return False
    right = {repr(lap) for lap in laps}
    for part in thing:
        if type(part) is not tuple or len(part) != 3 or repr(part[1:]) not in right:
            return False
        if repr(part[0]) != "()" and not is_stretch(n, part[0]) or not lies_on(part[1:], part[0]):
            return False
    for at in range(n):
        rooms = [part[1][at] for part in thing if any(part[1][at])]
        if len(rooms) != sizes[at] or not is_free(q, sizes[at], rooms):
            return False
        steps = [lap_steps(part[1:])[at] for part in thing if any(lap_steps(part[1:])[at])]
        if len(steps) != len(sections[at]) or not is_free(q, width(sizes, at), steps):
            return False
    return True


def missed(stair, laps):
    """All right certificates that a room or a step is on no round."""
    q, sizes, _ = stair
    found = []
    for at, size in enumerate(sizes):
        gone = {rooms[at] for rooms, _ in laps}
        found.extend(("room", at, room) for room in all_rows(q, size) if room not in gone)
        gone = {lap_steps(lap)[at] for lap in laps}
        there = sorted(room + (mark,) + target for room, mark, target in steps(stair, at))
        found.extend(("step", at, step) for step in there if step not in gone)
    return found


def trimmed(stair, laps):
    q, sizes, _ = stair
    n = len(sizes)
    heads = [[head(row) for row in plain(q, size, sorted({rooms[at] for rooms, _ in laps}))]
             for at, size in enumerate(sizes)]
    named = [(tuple(tuple(room[h] for h in heads[at]) for at, room in enumerate(rooms)), word) for rooms, word in laps]
    small = tuple(len(spots) for spots in heads)
    sections = [plain(q, width(small, at), sorted({lap_steps(lap)[at] for lap in named})) for at in range(n)]
    return (q, small, tuple(sections))


# Parts 7 and 8: the partner's stair, and stairs that are changed.

def partner_steps(stair, place):
    """All triples, as rows, that are 0 with each step of a place."""
    q, sizes, _ = stair
    size = sizes[place]
    right = steps(stair, place)
    return {row for row in all_rows(q, width(sizes, place))
            if all((meet(q, row[:size], room) + row[size] * mark - meet(q, row[size + 1:], target)) % q == 0
                   for room, mark, target in right)}


def dimensions(q, laps):
    """How many free rounds there are, and how many that spell noughts."""
    return count_of(q, laps), count_of(q, [lap for lap in laps if not any(lap[1])])


def led(q, room, table):
    return tuple(sum(mark * row[at] for mark, row in zip(room, table)) % q for at in range(len(room)))


def is_table(q, size, thing):
    if type(thing) is not tuple or len(thing) != size or not all(is_row(q, size, row) for row in thing):
        return False
    return not any(any(room) and not any(led(q, room, thing)) for room in all_rows(q, size))


def is_tables(stair, thing):
    q, sizes, _ = stair
    if type(thing) is not tuple or len(thing) != len(sizes):
        return False
    return all(is_table(q, size, table) for size, table in zip(sizes, thing))


def renamed_steps(stair, tables, place):
    q, sizes, _ = stair
    behind = (place + 1) % len(sizes)
    return {led(q, room, tables[place]) + (mark,) + led(q, target, tables[behind])
            for room, mark, target in steps(stair, place)}


def repeated(stair, m):
    q, sizes, sections = stair
    return (q, sizes * m, sections * m)


def arc(n, s, t):
    """The places from the time s on round to the time t."""
    found = [s]
    while (found[-1] + 1) % n != t:
        found.append((found[-1] + 1) % n)
    return found


def cut_bound(book, s, t):
    q, n, basis = book
    found = len(basis)
    for ahead, behind in ((s, t), (t, s)):
        others = [place for place in range(n) if place not in arc(n, ahead, behind)]
        found -= count_of(q, [word for word in words(book) if not any(word[place] for place in others)])
    return found


# Parts 9 and 10: prices. `spoken` are the words that a stair spells.

def is_prices(stair, thing):
    q, sizes, _ = stair
    if type(thing) is not tuple or len(thing) != len(sizes):
        return False
    return all(type(row) is tuple and len(row) == q and all(is_int(price) for price in row) for row in thing)


def price(prices, word):
    """The price of the word of a round of one turn or of several."""
    return sum(prices[at % len(prices)][mark] for at, mark in enumerate(word))


def nearest(prices, spoken):
    least = min(price(prices, word) for word in spoken)
    return tuple(sorted(word for word in spoken if price(prices, word) == least))


def mark_prices(q, prices, spoken):
    found = []
    for place in range(len(prices)):
        fit = [[price(prices, word) for word in spoken if word[place] == mark] for mark in range(q)]
        found.append(tuple(min(told) if told else None for told in fit))
    return tuple(found)


def named_heights(stair, thing, times):
    """A dict (time, room) -> height, for so many times; None if the value has not the form of heights."""
    q, sizes, _ = stair
    if type(thing) is not tuple or len(thing) != times:
        return None
    named = {}
    for time, row in enumerate(thing):
        rooms = all_rows(q, sizes[time % len(sizes)])
        if type(row) is not tuple or len(row) != len(rooms):
            return None
        named.update({(time, room): height for room, height in zip(rooms, row)})
    return named if all(height is None or is_int(height) for height in named.values()) else None


def is_nearest(stair, prices, spoken, thing):
    """Whether a value is a certificate of a nearest word."""
    q, sizes, _ = stair
    n = len(sizes)
    if type(thing) is not tuple or len(thing) != 3 or repr(thing[0]) != "'nearest'":
        return False
    if not is_row(q, n, thing[1]) or thing[1] not in spoken or type(thing[2]) is not tuple:
        return False
    starts = all_rows(q, sizes[0])
    if len(thing[2]) != len(starts):
        return False
    for start, item in zip(starts, thing[2]):
        named = named_heights(stair, item, n + 1)
        if named is None or named[n, start] is not None and named[n, start] < price(prices, thing[1]):
            return False
        if any(named[0, room] != (0 if room == start else None) for room in starts):
            return False
        for place in range(n):
            for room, mark, target in steps(stair, place):
                height, behind = named[place, room], named[place + 1, target]
                if height is not None and (behind is None or behind > height + prices[place][mark]):
                    return False
    return True


def is_long_round(stair, thing):
    q, sizes, _ = stair
    n = len(sizes)
    if type(thing) is not tuple or len(thing) != 2 or not all(type(part) is tuple for part in thing):
        return False
    rooms, word = thing
    if len(word) == 0 or len(word) % n != 0 or len(rooms) != len(word) or not is_row(q, len(word), word):
        return False
    for j in range(len(word)):
        if not is_row(q, sizes[j % n], rooms[j]):
            return False
    return all((rooms[j], word[j], rooms[(j + 1) % len(word)]) in steps(stair, j % n) for j in range(len(word)))


def mean(prices, word):
    found = Fraction(price(prices, word), len(word) // len(prices))
    return (found.numerator, found.denominator)


def does_bound(stair, prices, told, thing):
    """Whether a value is heights for a mean."""
    n = len(prices)
    top, bottom = told
    named = named_heights(stair, thing, n)
    if named is None or None in named.values():
        return False
    for place in range(n):
        for room, mark, target in steps(stair, place):
            most = named[place, room] + bottom * prices[place][mark]
            if place == n - 1:
                most -= top
            if named[(place + 1) % n, target] > most:
                return False
    return True


def is_mean(stair, prices, thing):
    """Whether a value is a certificate of the least mean."""
    if type(thing) is not tuple or len(thing) != 5 or repr(thing[0]) != "'mean'":
        return False
    _, told, rooms, word, heights = thing
    if not is_long_round(stair, (rooms, word)) or repr(told) != repr(mean(prices, word)):
        return False
    return does_bound(stair, prices, told, heights)


def is_going_round(stair, prices, spoken, thing):
    """Whether a value is a certificate of [10.3]."""
    q, sizes, _ = stair
    if type(thing) is not tuple or len(thing) != 3:
        return False
    kind, first, second = thing
    if repr(kind) == "'word'":
        if not is_row(q, len(sizes), first) or first not in spoken:
            return False
        return does_bound(stair, prices, (price(prices, first), 1), second)
    if repr(kind) != "'round'" or not is_long_round(stair, (first, second)):
        return False
    least = min(price(prices, word) for word in spoken)
    return Fraction(price(prices, second), len(second) // len(sizes)) < least


def turn_prices(stair, prices, most):
    """The least prices of long rounds of 1 turn, of 2 and so on, gone step by step from each room at the time 0."""
    q, sizes, _ = stair
    doors = [steps(stair, place) for place in range(len(sizes))]
    found = {}
    for start in all_rows(q, sizes[0]):
        reached = {start: 0}
        for m in range(1, most + 1):
            for place, ways in enumerate(doors):
                further = {}
                for room, mark, target in ways:
                    if room in reached:
                        told = reached[room] + prices[place][mark]
                        further[target] = min(told, further.get(target, told))
                reached = further
            if start in reached:
                found[m] = min(reached[start], found.get(m, reached[start]))
    return found


def least_means(stair, prices, most):
    """The least mean of all long rounds of up to so many turns, and the fewest turns that have it."""
    means = {m: Fraction(told, m) for m, told in turn_prices(stair, prices, most).items()}
    least = min(means.values())
    return (least.numerator, least.denominator), min(m for m in means if means[m] == least)
