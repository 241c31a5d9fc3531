"""Marks, rows and plain tuples of rows, by 2, 3 or 5.

Only the functions whose names begin with is_ accept any value as `thing`. All
other arguments have been checked by the functions of the interface.
"""

FIELDS = (2, 3, 5)


def is_int(thing):
    return isinstance(thing, int) and not isinstance(thing, bool)


def is_int_from(low, high, thing):
    """Whether a value is an integer from low to high."""
    return is_int(thing) and low <= thing <= high


def is_field(thing):
    return is_int(thing) and thing in FIELDS


def is_tuple_of(length, thing):
    """Whether a value is a tuple of so many items."""
    return isinstance(thing, tuple) and len(thing) == length


def is_row(q, n, thing):
    """Whether a value is a row of n marks by q."""
    return is_tuple_of(n, thing) and all(is_int_from(0, q - 1, mark) for mark in thing)


def is_plain(q, n, thing):
    """Whether a value is a plain tuple of rows of n marks by q."""
    if not isinstance(thing, tuple) or not all(is_row(q, n, row) for row in thing):
        return False
    # There is just one plain tuple with the same sums.
    return plain_of(q, thing) == thing


def noughts(n):
    return (0,) * n


def unit_rows(n, places):
    """For each of some places the row of n marks that has 1 there and 0 elsewhere."""
    return [noughts(place) + (1,) + noughts(n - place - 1) for place in places]


def marks_at(row, spots):
    return tuple([row[spot] for spot in spots])


def spread(marks, spots, width):
    """The row of so many marks that has marks at some spots and 0 elsewhere."""
    row = [0] * width
    for spot, mark in zip(spots, marks):
        row[spot] = mark
    return tuple(row)


def times(q, factor, row):
    return tuple([factor * mark % q for mark in row])


def plus(q, row, factor, other):
    """The sum of a row and of another one times a factor."""
    return tuple([(mark + factor * added) % q for mark, added in zip(row, other)])


def meet(q, row, other):
    """The mark in which two rows meet."""
    return sum([mark * opposite for mark, opposite in zip(row, other)]) % q


def inverse_of(q, mark):
    """The mark that gives 1 times a mark other than 0."""
    found = 1
    while found * mark % q != 1:
        found += 1
    return found


def head_of(row):
    """The place of the first mark other than 0; behind all places if there is none."""
    for place, mark in enumerate(row):
        if mark != 0:
            return place
    return len(row)


def rest_of(q, basis, row):
    """What is left of a row, less the sum of a plain basis that has the same marks at its heads.

    It is noughts exactly if the row is a sum of multiples of rows of the basis.
    """
    rest = row
    for line in basis:
        mark = rest[head_of(line)]
        if mark != 0:
            rest = plus(q, rest, -mark, line)
    return rest


def is_sum(q, basis, row):
    """Whether a row is a sum of multiples of rows of a plain basis."""
    return not any(rest_of(q, basis, row))


def is_free(q, rows):
    """Whether some rows of one length are free."""
    return len(plain_of(q, rows)) == len(rows)


def plain_of(q, rows):
    """The plain tuple with the same sums of multiples as some rows of one length."""
    basis = ()
    for row in rows:
        rest = rest_of(q, basis, row)
        if any(rest):
            basis = plain_with(q, basis, rest)
    return basis


def plain_with(q, basis, rest):
    """The plain tuple of a plain basis and one more row, which has 0 at the heads of the basis."""
    head = head_of(rest)
    line = times(q, inverse_of(q, rest[head]), rest)
    cleared = [plus(q, row, -row[head], line) for row in basis]
    # Where one row has its head all others have 0, so rows whose heads stand
    # further ahead are greater.
    return tuple(sorted(cleared + [line], reverse=True))


def partner_rows(q, n, rows):
    """The plain tuple whose sums are all rows of n marks that meet each of some rows in 0."""
    basis = plain_of(q, rows)
    heads = [head_of(line) for line in basis]
    found = []
    for place in range(n):
        if place not in heads:
            row = [0] * n
            row[place] = 1
            for head, line in zip(heads, basis):
                row[head] = -line[place] % q
            found.append(tuple(row))
    return plain_of(q, found)


def sums_of(q, n, rows):
    """The ascending tuple of all sums of multiples of some free rows of n marks."""
    sums = [noughts(n)]
    for row in rows:
        sums = [plus(q, start, factor, row) for start in sums for factor in range(q)]
    return tuple(sorted(sums))


def rows_clear(q, rows, spots, width):
    """Free rows whose sums are those sums of some rows of so many marks that have 0 at some spots."""
    order = spots + [spot for spot in range(width) if spot not in spots]
    ordered = plain_of(q, [marks_at(row, order) for row in rows])
    return [spread(row, order, width) for row in ordered if head_of(row) >= len(spots)]


def numbered_rows(q, rows):
    """Some free rows, made plain; behind each stand the marks with which they add up to it."""
    units = unit_rows(len(rows), list(range(len(rows))))
    return plain_of(q, [row + unit for row, unit in zip(rows, units)])


def marks_by(q, numbered, row):
    """The marks with which free rows, here numbered, add up to a row; None if they don't."""
    n = len(row)
    rest = rest_of(q, numbered, row + noughts(len(numbered)))
    if any(rest[:n]):
        return None
    return times(q, -1, rest[n:])
