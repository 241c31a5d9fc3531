"""One row out of each of some lists, so that these rows are free (R. Rado 1942).

All arguments have been checked by the functions of the interface.
"""

from roundstairs.rows import marks_by, numbered_rows


def free_choice(q, lists):
    """Free rows, one out of each list: ("rows", rows); or ("tight", positions).

    All rows of the lists at tight positions are sums of fewer free rows than
    there are positions.
    """
    chosen = []
    while len(chosen) < len(lists):
        longer, reached = longer_choice(q, lists, chosen)
        if longer is None:
            return ("tight", reached)
        chosen = longer
    return ("rows", tuple(chosen))


def longer_choice(q, lists, chosen):
    """A pair: free rows for one more list than chosen ones, and None; or None, and tight positions.

    A list that lacks a row takes one that is no sum of the chosen rows; or else
    one that is, and then each list whose row is needed for that sum may give
    its row up and lack one itself. It is reached from the first list that needs
    its row: so no row that is taken on a way needs one that is given up further
    on, and the rows stay free.
    """
    numbered = numbered_rows(q, chosen)
    came = {len(chosen): None}
    lacking = [len(chosen)]
    while lacking:
        position = lacking.pop()
        for row in lists[position]:
            marks = marks_by(q, numbered, row)
            if marks is None:
                return changed_choice(chosen, came, position, row), None
            for other, mark in enumerate(marks):
                if mark != 0 and other not in came:
                    came[other] = (position, row)
                    lacking.append(other)
    return None, tuple(sorted(came))


def changed_choice(chosen, came, position, row):
    """The chosen rows and one more, when a list takes a row and the way back to the last list is gone."""
    rows = chosen + [None]
    rows[position] = row
    while came[position] is not None:
        position, taken = came[position]
        rows[position] = taken
    return rows
