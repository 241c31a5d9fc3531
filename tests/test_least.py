"""Part 5: [5.1] free words over stretches, [5.2] least, [5.3] every least one; and two sentences of [0.3]."""

import unittest
from itertools import combinations, product

from roundstairs.errors import BadBook, BadSizes, BadStair, BadStretches, NotFull
from roundstairs.least import (
    fewest_greatest, fewest_sum, judge_least, judge_rows, least_holds, least_sizes, making_below, rows_hold)
from roundstairs.makings import making_sizes, stair_of
from roundstairs.stairs import is_trim, spelled
from tests import oracles
from tests.samples import (
    EVEN, LAID, MAKING, OPEN, PAIRS, ROUND, SPARE, Dice, any_values, full_books, largest_full_books, mangled,
    not_full_books, some_stairs, told_stairs)


def some_lots(book, most):
    """All lots of the list of a book, each in one order, and some of them turned round."""
    told = oracles.stretch_list(book)
    found = []
    for count in range(min(len(book[2]), most) + 1):
        for lot in combinations(told, count):
            found.append(lot)
            if count > 1 and len(found) % 3 == 0:
                found.append(lot[::-1])
    return found


def all_plain(q, width):
    """All plain tuples of rows of so many marks."""
    found = {()}
    new = [()]
    while new:
        longer = {oracles.plain(q, width, basis + (row,)) for basis in new for row in oracles.all_rows(q, width)}
        new = sorted(longer - found)
        found.update(new)
    return sorted(found)


def all_stairs(q, sizes):
    sections = [all_plain(q, oracles.width(sizes, place)) for place in range(len(sizes))]
    return [(q, sizes, chosen) for chosen in product(*sections)]


def loosened(stair, book):
    """Stairs of the same book with a step more that is on no round, if there is one, and with a room more."""
    q, sizes, sections = stair
    found = []
    for row in oracles.all_rows(q, oracles.width(sizes, 0)):
        section = oracles.plain(q, len(row), sections[0] + (row,))
        loose = (q, sizes, (section,) + sections[1:])
        if loose != stair and len(found) == 0 and spelled(loose) == book and not is_trim(loose):
            found.append(loose)
    if sizes[0] < 6:
        size = sizes[0]
        ahead = tuple(row[:size] + (0,) + row[size:] for row in sections[0])
        behind = tuple(row + (0,) for row in sections[-1])
        found.append((q, (size + 1,) + sizes[1:], (ahead,) + sections[1:-1] + (behind,)))
    return found


class RowsTest(unittest.TestCase):
    """[5.1]"""

    def test_judge_rows_for_each_lot(self):
        kinds = {}
        for book in full_books():
            if book[0] ** len(book[2]) > 30:
                continue
            for lot in some_lots(book, 3):
                right = oracles.row_certificates(book, lot)
                told = judge_rows(book, lot)
                self.assertIn(told, right)
                self.assertIs(rows_hold(book, lot, told), True)
                self.assertEqual(len({kind for kind, _ in right}), 1)
                kinds[told[0]] = True
        self.assertEqual(len(kinds), 2)

    def test_whether_there_are_free_words(self):
        for book in full_books():
            for lot in combinations(oracles.stretch_list(book), len(book[2])):
                self.assertEqual(judge_rows(book, lot)[0] == "rows", oracles.has_free_words(book, lot))

    def test_certificates_are_accepted_exactly_if_right(self):
        for book in full_books():
            if book[0] ** len(book[2]) > 9:
                continue
            words = sorted(oracles.words(book))
            for lot in some_lots(book, 2):
                right = oracles.row_certificates(book, lot)
                things = [("rows", rows) for rows in product(words, repeat=len(lot))]
                for count in range(len(lot) + 1):
                    things.extend(("tight", positions) for positions in combinations(range(len(lot)), count))
                for thing in things:
                    self.assertIs(rows_hold(book, lot, thing), thing in right)

    def test_mangled_certificates(self):
        for book, lot in ((EVEN, ((3, 0),)), (PAIRS, ((0, 2), (2, 0))), (PAIRS, ((1, 3), (0, 2))), (PAIRS, ()),
                          ((3, 3, ((1, 0, 2), (0, 1, 2))), ((1, 2), (0, 1)))):
            right = oracles.row_certificates(book, lot)
            texts = [repr(thing) for thing in right]
            for thing in list(mangled(judge_rows(book, lot))) + any_values():
                self.assertIs(rows_hold(book, lot, thing), repr(thing) in texts)

    def test_orders_and_wrong_words(self):
        lot, rows = ((1, 3), (0, 2)), ((0, 1, 0, 1), (1, 0, 1, 0))
        self.assertEqual(judge_rows(PAIRS, lot), ("rows", rows))
        self.assertIs(rows_hold(PAIRS, lot, ("rows", rows)), True)
        self.assertIs(rows_hold(PAIRS, lot, ("rows", rows[::-1])), False)
        self.assertIs(rows_hold(PAIRS, lot, ("rows", rows[:1])), False)
        self.assertIs(rows_hold(PAIRS, lot, ("rows", rows + rows)), False)
        self.assertIs(rows_hold(PAIRS, lot, ("rows", list(rows))), False)
        self.assertIs(rows_hold(PAIRS, lot, ["rows", rows]), False)
        self.assertIs(rows_hold(PAIRS, lot, ("tight", rows)), False)
        self.assertIs(rows_hold(PAIRS, lot, ("tight", (0, 1))), False)
        self.assertIs(rows_hold(PAIRS, ((0, 2), (2, 0)), ("tight", (0, 1))), True)
        for positions in ((1, 0), (0,), (1,), (), (0, 1, 1), (0, 1, 2), (False, True), [0, 1], (0, True), None):
            self.assertIs(rows_hold(PAIRS, ((0, 2), (2, 0)), ("tight", positions)), False)
        # Words of the book, and free, but not over the stretch: outside, and within its places.
        self.assertIs(rows_hold(EVEN, ((0, 1),), ("rows", ((1, 0, 0, 1),))), False)
        inner = (2, 4, ((1, 0, 1, 1), (0, 1, 1, 0)))
        self.assertIn((0, 3), oracles.stretch_list(inner))
        self.assertIs(rows_hold(inner, ((0, 3),), ("rows", ((0, 1, 1, 0),))), False)
        self.assertIs(rows_hold(inner, ((0, 3),), ("rows", ((1, 1, 0, 1),))), True)

    def test_no_stretch(self):
        for book in full_books():
            self.assertEqual(judge_rows(book, ()), ("rows", ()))
            self.assertIs(rows_hold(book, (), ("rows", ())), True)
            self.assertIs(rows_hold(book, (), ("tight", ())), False)

    def test_large_books(self):
        dice = Dice(41)
        kinds = {}
        for book in largest_full_books():
            told = oracles.stretch_list(book)
            for _ in range(6):
                rest, lot = list(told), []
                for _ in range(1 + dice.throw(len(book[2]))):
                    lot.append(rest.pop(dice.throw(len(rest))))
                found = judge_rows(book, tuple(lot))
                kinds[found[0]] = True
                self.assertIs(rows_hold(book, tuple(lot), found), True)
                if found[0] == "rows":
                    self.assertTrue(oracles.is_free(book[0], book[1], found[1]))
                    self.assertTrue(all(oracles.is_over(*pair) for pair in zip(found[1], lot)))
                else:
                    self.assertTrue(oracles.is_tight(book, lot, found[1]))
        self.assertEqual(len(kinds), 2)

    def test_wrong_stretches(self):
        for book, told in ((EVEN, oracles.stretch_list(EVEN)), (PAIRS, oracles.stretch_list(PAIRS))):
            wrong = [None, 0, "", {}, [], [told[0]], told[0], (told[0], told[0]), (list(told[0]),), (None,),
                     ((told[0][0], None),), ((0, 0),), ((0, 3),), (told[0], (9, 9)), tuple(told), (told[0] + (0,),),
                     ((False, told[0][1]),)]
            for value in wrong + any_values():
                if not oracles.is_lot(book, value):
                    for call in (judge_rows, lambda a, b: rows_hold(a, b, ("rows", ()))):
                        with self.assertRaises(BadStretches) as caught:
                            call(book, value)
                        self.assertIs(caught.exception.thing, value)
            # Not more of them than the dimension.
            for count in range(5):
                if count <= len(book[2]):
                    judge_rows(book, tuple(told[:count]))
                else:
                    with self.assertRaises(BadStretches):
                        judge_rows(book, tuple(told[:count]))

    def test_mangled_stretches(self):
        for lot in (((0, 2), (1, 3)), ((3, 1),)):
            for value in mangled(lot):
                if oracles.is_lot(PAIRS, value):
                    self.assertIs(rows_hold(PAIRS, value, judge_rows(PAIRS, value)), True)
                else:
                    with self.assertRaises(BadStretches) as caught:
                        judge_rows(PAIRS, value)
                    self.assertIs(caught.exception.thing, value)


class LeastSizesTest(unittest.TestCase):
    """[5.2] and [5.3], of books"""

    def test_least_sizes_of_books(self):
        for book in full_books():
            self.assertEqual(least_sizes(book), oracles.least_sizes(book))

    def test_against_all_stairs(self):
        for q, shapes in ((2, [*product((0, 1), repeat=2), (2, 1)]), (2, list(product((0, 1), repeat=3))),
                          (3, list(product((0, 1), repeat=2))), (2, [(0, 1, 1, 1)])):
            n = len(shapes[0])
            books = {}
            for sizes in shapes:
                for book in {spelled(stair) for stair in all_stairs(q, sizes)}:
                    if oracles.is_full(book):
                        books.setdefault(book, []).append(sizes)
            self.assertGreater(len(books), 0)
            for book, reached in books.items():
                right = [sizes for sizes in shapes
                         if any(all(a <= b for a, b in zip(least, sizes)) for least in least_sizes(book))]
                self.assertEqual(reached, right)

    def test_making_below(self):
        for book in full_books():
            _, n, _ = book
            told = oracles.stretch_list(book)
            every = oracles.list_sizes(book)
            dice = Dice(n)
            tried = [(0,) * n, (1,) * n, (2,) * n, (n,) * n, (10 ** 39,) * n, (0,) + (9,) * (n - 1)]
            tried += [tuple(dice.throw(3) for _ in range(n)) for _ in range(10)] + sorted(every)[:5]
            for sizes in tried:
                making = making_below(book, sizes)
                there = any(all(a <= b for a, b in zip(found, sizes)) for found in every)
                self.assertEqual(making is not None, there)
                if there:
                    self.assertTrue(oracles.is_making(book, making))
                    self.assertTrue(all(stretch in told for _, stretch in making))
                    laid = oracles.sizes_over(n, [stretch for _, stretch in making])
                    self.assertTrue(all(a <= b for a, b in zip(laid, sizes)))

    def test_fewest(self):
        for book in full_books():
            every = oracles.list_sizes(book)
            self.assertEqual(fewest_greatest(book), min(max(sizes) for sizes in every))
            self.assertEqual(fewest_sum(book), min(sum(sizes) for sizes in every))
        self.assertEqual((fewest_greatest(EVEN), fewest_sum(EVEN)), (1, 3))
        self.assertEqual((fewest_greatest(PAIRS), fewest_sum(PAIRS)), (2, 4))

    def test_large_books(self):
        for book in largest_full_books():
            told = least_sizes(book)
            self.assertEqual(list(told), sorted(set(told)))
            self.assertGreater(len(told), 0)
            self.assertEqual(fewest_greatest(book), min(max(sizes) for sizes in told))
            self.assertEqual(fewest_sum(book), min(sum(sizes) for sizes in told))
            for sizes in told[:2] + told[-1:]:
                making = making_below(book, sizes)
                self.assertTrue(oracles.is_making(book, making))
                self.assertEqual(making_sizes(book, making), sizes)
                self.assertFalse(any(oracles.is_below(other, sizes) for other in told))
                at = sizes.index(max(sizes))
                self.assertIsNone(making_below(book, sizes[:at] + (sizes[at] - 1,) + sizes[at + 1:]))

    def test_wrong_sizes(self):
        for sizes in [(0, 0, 0), (0,) * 5, (0, 0, 0, -1), (0, 0, 0, True), (False, 0, 0, 0), [0, 0, 0, 0], None, "0000",
                      0, (), (0, 0, 0, None), (0, 0, 0, "0"), (0, 0, 0, (0,)), {}, ((0, 0, 0, 0),)]:
            for book in (EVEN, PAIRS):
                with self.assertRaises(BadSizes) as caught:
                    making_below(book, sizes)
                self.assertIs(caught.exception.thing, sizes)

    def test_books_that_are_not_full(self):
        for book in not_full_books():
            for call in (least_sizes, fewest_greatest, fewest_sum, lambda b: making_below(b, None),
                         lambda b: judge_rows(b, None), lambda b: rows_hold(b, None, None)):
                with self.assertRaises(NotFull):
                    call(book)
        for book in (None, [*EVEN], (2, 4, ((1, 1, 0, 0), (0, 1, 1, 0))), OPEN):
            for call in (least_sizes, fewest_greatest, fewest_sum, lambda b: making_below(b, None),
                         lambda b: judge_rows(b, None), lambda b: rows_hold(b, None, None)):
                with self.assertRaises(BadBook) as caught:
                    call(book)
                self.assertIs(caught.exception.thing, book)


class LeastStairsTest(unittest.TestCase):
    """[5.2] and [5.3], of stairs"""

    def stairs(self):
        found = []
        for stair in some_stairs() + [stair for stair, _ in told_stairs()]:
            words = {word for _, word in oracles.rounds(stair)}
            n = len(stair[1])
            book = (stair[0], n, oracles.plain(stair[0], n, sorted(words)))
            if oracles.is_full(book):
                found.append((stair, book))
        for book in full_books():
            for sizes in least_sizes(book)[:2]:
                found.append((stair_of(book, making_below(book, sizes)), book))
        return found + [(loose, book) for stair, book in found[::4] for loose in loosened(stair, book)]

    def test_judge_least(self):
        kinds = {}
        for stair, book in self.stairs():
            lesser = [sizes for sizes in oracles.list_sizes(book) if oracles.is_below(sizes, stair[1])]
            told = judge_least(stair)
            kinds[(told[0], is_trim(stair))] = True
            self.assertIs(least_holds(stair, told), True)
            self.assertEqual(told == ("least",), lesser == [])
            self.assertIs(least_holds(stair, ("least",)), lesser == [])
            if lesser:
                kind, making = told
                self.assertEqual(kind, "lesser")
                self.assertTrue(oracles.is_making(book, making))
                laid = oracles.sizes_over(book[1], [stretch for _, stretch in making])
                self.assertTrue(oracles.is_below(laid, stair[1]))
        self.assertEqual(sorted(kinds), [("least", True), ("lesser", False), ("lesser", True)])

    def test_any_making_with_lesser_sizes_is_accepted(self):
        # All makings of EVEN, for stairs that spell it, one of them of sizes (1, 2, 2, 0).
        pairs = [(word, stretch) for word in sorted(oracles.words(EVEN)) for stretch in oracles.stretches_of(word)]
        for stair in (ROUND, OPEN, stair_of(EVEN, MAKING[:2] + (((0, 0, 1, 1), (3, 2)),))):
            for making in product(pairs, repeat=3):
                right = (oracles.is_below(oracles.sizes_over(4, [stretch for _, stretch in making]), stair[1])
                         and oracles.is_making(EVEN, making))
                self.assertIs(least_holds(stair, ("lesser", making)), right)

    def test_mangled_certificates(self):
        for stair in (ROUND, OPEN, LAID):
            book = spelled(stair)
            for thing in list(mangled(("lesser", MAKING))) + list(mangled(("least",))) + any_values():
                right = repr(thing) == "('least',)" and stair is not ROUND
                if type(thing) is tuple and len(thing) == 2 and thing[0] == "lesser":
                    right = oracles.is_making(book, thing[1]) and oracles.is_below(
                        oracles.sizes_over(book[1], [stretch for _, stretch in thing[1]]), stair[1])
                self.assertIs(least_holds(stair, thing), right)

    def test_certificates_of_the_other_kind(self):
        self.assertIs(least_holds(OPEN, ("least",)), True)
        self.assertIs(least_holds(OPEN, ("lesser", MAKING)), False)
        self.assertIs(least_holds(ROUND, ("least",)), False)
        self.assertIs(least_holds(ROUND, ("lesser", MAKING)), True)
        for thing in (["least"], "least", ("least", None), ("lesser",), ["lesser", MAKING], ("lesser", list(MAKING)),
                      ("least", MAKING), MAKING, ("lesser", MAKING[:2]), ("lesser", MAKING, None)):
            self.assertIs(least_holds(ROUND, thing), False)

    def test_large_stairs(self):
        for book in largest_full_books():
            for sizes in least_sizes(book)[:2]:
                making = making_below(book, sizes)
                stair = stair_of(book, making)
                self.assertEqual(judge_least(stair), ("least",))
                self.assertIs(least_holds(stair, ("least",)), True)
                self.assertIs(least_holds(stair, ("lesser", making)), False)
            # Words of the basis over the longest of their stretches.
            n = book[1]
            long = tuple((word, max(oracles.stretches_of(word), key=lambda s: len(oracles.places_in(n, s))))
                         for word in book[2])
            if max(making_sizes(book, long)) <= 6 and sum(making_sizes(book, long)) <= 24:
                stair = stair_of(book, long)
                told = judge_least(stair)
                self.assertIs(least_holds(stair, told), True)

    def test_stairs_whose_book_is_not_full(self):
        alone = (2, (0, 0), (((1,),), ((1,),)))
        none = (3, (1, 1), ((), ()))
        for stair in (SPARE, alone, none):
            for call in (judge_least, lambda s: least_holds(s, ("least",)), lambda s: least_holds(s, None)):
                with self.assertRaises(NotFull):
                    call(stair)
        for stair in (None, EVEN, [*OPEN], (4,) + OPEN[1:]):
            for call in (judge_least, lambda s: least_holds(s, ("least",))):
                with self.assertRaises(BadStair) as caught:
                    call(stair)
                self.assertIs(caught.exception.thing, stair)
