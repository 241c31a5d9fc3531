"""One free row out of each of some lists [5.1], of any lists: also where rows have to be given up again."""

import unittest
from itertools import combinations, product

from roundstairs.choices import free_choice
from tests import oracles
from tests.samples import Dice


class ChoicesTest(unittest.TestCase):

    def check_choice(self, q, n, lists):
        kind, told = free_choice(q, lists)
        if kind == "rows":
            self.assertEqual(len(told), len(lists))
            self.assertTrue(all(row in rows for row, rows in zip(told, lists)))
            self.assertTrue(oracles.is_free(q, n, told))
        else:
            self.assertEqual(kind, "tight")
            self.assertTrue(oracles.is_places(len(lists), told))
            rows = [row for position in told for row in lists[position]]
            self.assertLess(oracles.count_of(q, oracles.sums(q, n, rows)), len(told))
        return kind

    def test_thrown_lists(self):
        dice = Dice(43)
        kinds = {}
        for q, n, most in ((2, 3, 3), (2, 4, 2), (2, 5, 2), (2, 6, 2), (3, 4, 2), (5, 3, 2)):
            for _ in range(150):
                lists = [list(dice.rows(q, n, dice.throw(most + 1))) for _ in range(n - dice.throw(2))]
                kind = self.check_choice(q, n, lists)
                kinds[kind] = kinds.get(kind, 0) + 1
        self.assertGreater(min(kinds.values()), 100)
        self.assertEqual(len(kinds), 2)

    def test_all_short_lists_of_a_few_rows(self):
        rows = ((1, 0, 0, 0), (0, 1, 0, 0), (1, 1, 0, 0), (0, 1, 1, 0), (0, 0, 1, 1))
        pairs = [list(pair) for pair in combinations(rows, 2)]
        for lists in product(pairs, repeat=4):
            self.check_choice(2, 4, list(lists))

    def test_rows_are_given_up_in_turn(self):
        units = [tuple(int(at == k) for at in range(7)) for k in range(7)]
        # Each list but the last one has two rows, and each row is wanted twice.
        lists = [[units[k], units[k + 1]] for k in range(6)] + [[units[0]]]
        self.assertEqual(free_choice(2, lists), ("rows", tuple(units[1:] + units[:1])))
        self.assertEqual(free_choice(2, lists + [[units[3]]]), ("tight", (0, 1, 2, 6, 7)))
        self.assertEqual(free_choice(2, [units, units[:1], units[1:3], units[:2], units[:3]]), ("tight", (1, 2, 3, 4)))

    def test_no_list_and_empty_lists(self):
        self.assertEqual(free_choice(3, []), ("rows", ()))
        self.assertEqual(free_choice(3, [[]]), ("tight", (0,)))
        self.assertEqual(free_choice(3, [[(1, 2)], []]), ("tight", (1,)))
        self.assertEqual(free_choice(3, [[(0, 0)]]), ("tight", (0,)))
