"""The greatest tables and questions come to an end in a time that is fit."""

import itertools
import time
import unittest

from joinplans.planner import answers
from tests.helper import answered, asked, atom, cost, count, joined, left, order, plan, told, tree

FIT_SECONDS = 30
TEN_ROWS = [(1, [(value,) for value in range(10)])]
APART = asked(TEN_ROWS, *[atom(0, f"v{k}") for k in range(5)])
TYING_ROWS = [(k, (3 * k) % 10, (7 * k + 1) % 10, (k + 5) % 10) for k in range(10)]
TIED = asked([*TEN_ROWS, (4, TYING_ROWS)], *[atom(0, f"v{k}") for k in range(4)], atom(1, "v0", "v1", "v2", "v3"))


class Size(unittest.TestCase):
    def setUp(self):
        self.start = time.monotonic()

    def tearDown(self):
        self.assertLess(time.monotonic() - self.start, FIT_SECONDS)

    def test_five_atoms_of_ten_rows_that_share_no_variable(self):
        calls = [*APART, count, order, cost(4, 2, 0, 1, 3), plan, answered(), answered(3), count]
        expected = [[100000], [111100, 0, 1, 2, 3, 4], [111100], [101200, 0, 1, -1, 2, 3, 4, -1, -1, -1], [1],
                    [10, *range(10)], [100000]]
        self.assertEqual(told(*calls)[-7:], expected)

    def test_all_of_their_ways_told(self):
        rows = list(itertools.product(range(10), repeat=5))
        given = told(*APART, answered(4, 0, 3, 1, 2))[-1]
        self.assertEqual(given, [100000, *itertools.chain.from_iterable(rows)])

    def test_nearly_ten_million_numbers(self):
        given = answers(joined(*APART, answered(*[0, 1, 2, 3, 4] * 19, 0, 1, 2, 3)))
        start = given.index(9900001)
        self.assertEqual(len(given), start + 1 + 9900001)
        self.assertEqual(given[start + 1:start + 3], [100000, 0])
        self.assertEqual(given[-99:], [9] * 99)
        self.assertEqual(given[-198:-99], [9, 9, 9, 9, 8] * 19 + [9] * 4)

    def test_sixty_calls_of_the_same_kind(self):
        for start in (APART, TIED):
            for call in (tree, left(0), count, order, cost(0, 1, 2, 3, 4), plan, answered(0)):
                how_many = 60 - len(start)
                given = told(*start, *[call] * how_many)[len(start):]
                self.assertEqual(given, [given[0]] * how_many)

    def test_one_atom_ties_the_others(self):
        calls = [*TIED, count, answered(0, 1, 2, 3), order, plan]
        told_rows = [10, *itertools.chain.from_iterable(TYING_ROWS)]
        expected = [[10], told_rows, [40, 0, 4, 1, 2, 3], [40, 0, 1, 2, 3, 4, -1, -1, -1, -1]]
        self.assertEqual(told(*calls)[-4:], expected)

    def test_ten_rows_of_four_columns_that_all_agree(self):
        rows = [(7, 7, 7, value) for value in range(10)]
        start = asked([(4, rows)], *[atom(0, "v0", "v1", "v2", f"v{k}") for k in range(3, 8)])
        calls = [*start, count, answered(0, 1, 2), order, plan]
        expected = [[100000], [1, 7, 7, 7], [111100, 0, 1, 2, 3, 4], [101200, 0, 1, -1, 2, 3, 4, -1, -1, -1]]
        self.assertEqual(told(*calls)[-4:], expected)


if __name__ == "__main__":
    unittest.main()
