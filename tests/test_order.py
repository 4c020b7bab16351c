"""Promise 5: order and cost."""

import itertools
import unittest

from tests.helper import (answered, asked, atom, begin, cost, count, counts_by_the_words, left, mixed_question, order,
                          plan, question, row, sized, table, told, told_last, tree, written)

PATH = [(2, [(1, 2), (2, 3), (2, 4), (0, 2)]), (1, [(3,)])], atom(0, "v0", "v1"), atom(0, "v1", "v2"), atom(1, "v2")


def order_of(tables, *atoms):
    return told_last(*asked(tables, *atoms), order)


def cost_of(tables, *atoms, numbers):
    return told_last(*asked(tables, *atoms), cost(*numbers))


def cost_by_the_words(counts, numbers):
    return sum(counts[tuple(sorted(numbers[:length]))] for length in range(2, len(numbers) + 1))


class Order(unittest.TestCase):
    def test_one_atom_costs_0(self):
        self.assertEqual(order_of([(1, [(1,), (2,)])], atom(0, "v0")), [0, 0])
        self.assertEqual(order_of([(1, [])], atom(0, "v0")), [0, 0])
        self.assertEqual(order_of([(0, [()])], atom(0)), [0, 0])

    def test_two_atoms(self):
        self.assertEqual(order_of(*sized(2, 3)), [6, 0, 1])
        self.assertEqual(order_of(*sized(3, 2)), [6, 0, 1])

    def test_three_atoms(self):
        self.assertEqual(order_of(*sized(3, 1, 2)), [8, 1, 2, 0])
        self.assertEqual(order_of(*sized(1, 3, 2)), [8, 0, 2, 1])
        self.assertEqual(order_of(*sized(1, 2, 3)), [8, 0, 1, 2])

    def test_five_atoms(self):
        self.assertEqual(order_of(*sized(5, 1, 4, 2, 3)), [2 + 6 + 24 + 120, 1, 3, 4, 2, 0])

    def test_path(self):
        self.assertEqual(order_of(*PATH), [1 + 2, 1, 2, 0])

    def test_triangle(self):
        tables = [(2, [(1, 2), (1, 3), (1, 4)]), (2, [(2, 5), (3, 6)]), (2, [(5, 1)])]
        ring = [atom(0, "v0", "v1"), atom(1, "v1", "v2"), atom(2, "v2", "v0")]
        self.assertEqual(order_of(tables, *ring), [1 + 1, 1, 2, 0])

    def test_of_the_cheapest_the_earliest(self):
        self.assertEqual(order_of(*sized(1, 1, 1, 1, 1)), [4, 0, 1, 2, 3, 4])
        self.assertEqual(order_of(*sized(2, 2, 2)), [12, 0, 1, 2])
        self.assertEqual(order_of(*sized(2, 1, 1)), [3, 1, 2, 0])
        self.assertEqual(order_of(*sized(2, 2, 1)), [6, 0, 2, 1])
        self.assertEqual(order_of(*sized(1, 2, 2)), [6, 0, 1, 2])
        self.assertEqual(order_of(*sized(3, 2, 1, 2)), [2 + 4 + 12, 1, 2, 3, 0])

    def test_an_atom_without_rows(self):
        self.assertEqual(order_of(*sized(2, 2, 0)), [0, 0, 2, 1])
        self.assertEqual(order_of(*sized(0, 2, 2)), [0, 0, 1, 2])
        self.assertEqual(order_of(*sized(2, 0, 2, 0, 1)), [0, 0, 1, 2, 3, 4])

    def test_not_the_order_of_the_atom_that_seems_cheapest(self):
        tables = [(1, [(1,), (2,)]), (2, [(k, k + 10) for k in range(4)]), (2, [(k + 10, k + 20) for k in range(4)])]
        self.assertEqual(order_of(tables, atom(0, "v9"), atom(1, "v0", "v1"), atom(2, "v1", "v2")), [4 + 8, 1, 2, 0])

    def test_rows_that_come_behind_the_question(self):
        calls = [*asked(*sized(1, 2, 2)), order, row(0, 1), row(0, 2), order]
        self.assertEqual([told(*calls)[-4], told(*calls)[-1]], [[6, 0, 1, 2], [16, 1, 2, 0]])

    def test_no_question(self):
        self.assertEqual(told(order), [[-5]])
        self.assertEqual(told_last(*asked(*PATH), begin, order), [-5])


class Cost(unittest.TestCase):
    def test_one_atom_costs_0(self):
        self.assertEqual(cost_of([(1, [(1,), (2,)])], atom(0, "v0"), numbers=[0]), [0])

    def test_two_atoms(self):
        self.assertEqual(cost_of(*sized(2, 3), numbers=[0, 1]), [6])
        self.assertEqual(cost_of(*sized(2, 3), numbers=[1, 0]), [6])

    def test_three_atoms(self):
        for numbers, expected in (((0, 1, 2), 9), ((0, 2, 1), 12), ((1, 0, 2), 9), ((1, 2, 0), 8), ((2, 0, 1), 12),
                                  ((2, 1, 0), 8)):
            with self.subTest(numbers=numbers):
                self.assertEqual(cost_of(*sized(3, 1, 2), numbers=numbers), [expected])

    def test_five_atoms(self):
        self.assertEqual(cost_of(*sized(5, 1, 4, 2, 3), numbers=[0, 1, 2, 3, 4]), [5 + 20 + 40 + 120])
        self.assertEqual(cost_of(*sized(5, 1, 4, 2, 3), numbers=[4, 2, 0, 3, 1]), [12 + 60 + 120 + 120])

    def test_path(self):
        self.assertEqual(cost_of(*PATH, numbers=[0, 1, 2]), [4 + 2])
        self.assertEqual(cost_of(*PATH, numbers=[0, 2, 1]), [4 + 2])
        self.assertEqual(cost_of(*PATH, numbers=[1, 2, 0]), [1 + 2])

    def test_no_ways(self):
        self.assertEqual(cost_of(*sized(2, 3, 0), numbers=[0, 1, 2]), [6])
        self.assertEqual(cost_of(*sized(2, 3, 0), numbers=[2, 1, 0]), [0])

    def test_what_is_not_an_order(self):
        wrong = ([], [0], [0, 1], [0, 1, 2, 3], [0, 1, 2, 0], [0, 0, 1], [2, 2, 2], [0, 1, 3], [-1, 0, 1], [1, 2, 3],
                 [0, 1, -2], [0, 1, 2000000000], [-2000000000, 1, 2], [0, 1, 2] * 33, [0] * 100)
        start = asked(*PATH)
        for numbers in wrong:
            with self.subTest(numbers=numbers):
                self.assertEqual(told(*start, cost(*numbers), cost(0, 1, 2))[-2:], [[-1], [6]])

    def test_what_is_not_an_order_of_one_or_five(self):
        one, five = asked(*sized(2)), asked(*sized(1, 1, 1, 1, 1))
        for numbers in ([], [1], [-1], [0, 0], [0, 1]):
            self.assertEqual(told_last(*one, cost(*numbers)), [-1])
        for numbers in ([], [0, 1, 2, 3], [0, 1, 2, 3, 5], [0, 1, 2, 3, 4, 5], [4, 3, 2, 1, 1], [1, 2, 3, 4, 5]):
            self.assertEqual(told_last(*five, cost(*numbers)), [-1])

    def test_refused_changes_nothing(self):
        behind = [tree, left(0), count, answered(0, 1, 2), order, cost(2, 0, 1), plan, row(0, 1, 2), row(1, 9), table(2)]
        start = asked(*PATH)
        expected = told(*start, *behind)[len(start):]
        for wrong in (cost(), cost(0, 1), cost(0, 1, 1), cost(0, 1, 2, 3)):
            self.assertEqual(told(*start, wrong, *behind)[len(start):], [[-1], *expected])

    def test_the_atoms_of_the_question_there_is_now(self):
        calls = [table(1), row(0, 1), question(atom(0, "v0"), atom(0, "v1")), cost(1, 0), question(atom(0, "v0")),
                 cost(1, 0), cost(0)]
        self.assertEqual(told(*calls)[2:], [[2], [1], [1], [-1], [0]])

    def test_no_question_counts_ahead_of_what_is_not_an_order(self):
        self.assertEqual(told(cost(), cost(0), cost(0, 0), cost(-1)), [[-5]] * 4)
        self.assertEqual(told_last(*asked(*PATH), begin, cost(0, 1)), [-5])


class OrderByTheWords(unittest.TestCase):
    def test_mixed_questions(self):
        for seed in range(200):
            tables, atoms = mixed_question(seed)
            counts = counts_by_the_words(tables, atoms)
            orders = list(itertools.permutations(range(len(atoms))))
            costs = [cost_by_the_words(counts, numbers) for numbers in orders]
            start = asked(tables, *written(atoms))
            with self.subTest(tables=tables, atoms=atoms):
                best = min(zip(costs, orders))
                self.assertEqual(told_last(*start, order), [best[0], *best[1]])
                for first in range(0, len(orders), 40):
                    given = told(*start, *[cost(*numbers) for numbers in orders[first:first + 40]])[len(start):]
                    self.assertEqual(given, [[number] for number in costs[first:first + 40]])


if __name__ == "__main__":
    unittest.main()
