"""Promise 5: plan."""

import itertools
import unittest

from tests.helper import (answered, asked, atom, begin, cost, count, counts_by_the_words, left, mixed_question, order,
                          plan, row, sized, table, told, told_last, tree, written)

THREES = [(1, [(1,), (2,), (3,)])]


def plan_of(tables, *atoms):
    return told_last(*asked(tables, *atoms), plan)


def threes(*variables):
    """The plan of atoms with one variable each, all of one table of three rows."""
    return plan_of(THREES, *[atom(0, f"v{variable}") for variable in variables])


def plan_by_the_words(counts, some):
    """What the plan of these atoms costs, and its numbers."""
    if len(some) == 1:
        return 0, list(some)
    choices = []
    for length in range(1, len(some)):
        for first in itertools.combinations(some, length):
            if some[0] in first:
                one = plan_by_the_words(counts, first)
                other = plan_by_the_words(counts, tuple(number for number in some if number not in first))
                choices.append((one[0] + other[0] + counts[some], length, first, one[1] + other[1] + [-1]))
    best = min(choices)
    return best[0], best[3]


def cost_of_told(counts, numbers):
    """What a plan costs that is told as these numbers, joining by joining; all of its atoms."""
    total = 0
    sides = []
    for number in numbers:
        if number == -1:
            sides[-2:] = [tuple(sorted(sides[-2] + sides[-1]))]
            total += counts[sides[-1]]
        else:
            sides.append((number,))
    assert len(sides) == 1, "the numbers are not one plan"
    return total, sides[0]


def least_cost(counts, some):
    """The least that any plan of these atoms costs, the lowest on whichever side."""
    if len(some) == 1:
        return 0
    sides = [first for length in range(1, len(some)) for first in itertools.combinations(some, length)]
    return counts[some] + min(least_cost(counts, first) + least_cost(counts, tuple(sorted({*some} - {*first})))
                              for first in sides)


class Plan(unittest.TestCase):
    def test_one_atom_is_that_atom(self):
        self.assertEqual(plan_of(*sized(2)), [0, 0])
        self.assertEqual(plan_of(*sized(0)), [0, 0])
        self.assertEqual(plan_of([(0, [()])], atom(0)), [0, 0])

    def test_two_atoms(self):
        self.assertEqual(plan_of(*sized(2, 3)), [6, 0, 1, -1])
        self.assertEqual(plan_of(*sized(3, 0)), [0, 0, 1, -1])

    def test_three_atoms(self):
        self.assertEqual(plan_of(*sized(3, 1, 2)), [6 + 2, 0, 1, 2, -1, -1])
        self.assertEqual(plan_of(*sized(1, 2, 3)), [6 + 2, 0, 1, -1, 2, -1])
        self.assertEqual(plan_of(*sized(1, 3, 2)), [6 + 2, 0, 2, -1, 1, -1])

    def test_triangle(self):
        tables = [(2, [(1, 2), (1, 3), (1, 4)]), (2, [(2, 5), (3, 6)]), (2, [(5, 1)])]
        ring = [atom(0, "v0", "v1"), atom(1, "v1", "v2"), atom(2, "v2", "v0")]
        self.assertEqual(plan_of(tables, *ring), [1 + 1, 0, 1, 2, -1, -1])

    def test_both_sides_have_two_atoms_or_more(self):
        self.assertEqual(threes(0, 0, 1, 1), [3 + 3 + 9, 0, 1, -1, 2, 3, -1, -1])
        self.assertEqual(threes(0, 1, 0, 1), [3 + 3 + 9, 0, 2, -1, 1, 3, -1, -1])
        self.assertEqual(threes(0, 1, 1, 0), [3 + 3 + 9, 0, 3, -1, 1, 2, -1, -1])

    def test_five_atoms_parted_in_each_number(self):
        self.assertEqual(threes(0, 1, 1, 1, 1), [9 + 9, 0, 1, 2, 3, 4, -1, -1, -1, -1])
        self.assertEqual(threes(0, 0, 1, 1, 1), [3 + 6 + 9, 0, 1, -1, 2, 3, 4, -1, -1, -1])
        self.assertEqual(threes(0, 0, 0, 1, 1), [6 + 3 + 9, 0, 1, 2, -1, -1, 3, 4, -1, -1])
        self.assertEqual(threes(0, 0, 0, 0, 1), [9 + 9, 0, 1, 2, 3, -1, -1, -1, 4, -1])
        self.assertEqual(threes(0, 1, 0, 1, 0), [6 + 3 + 9, 0, 2, 4, -1, -1, 1, 3, -1, -1])

    def test_of_partings_that_cost_the_same_the_one_with_fewer_on_the_first_side(self):
        self.assertEqual(plan_of(*sized(1, 1, 1)), [2, 0, 1, 2, -1, -1])
        self.assertEqual(plan_of(*sized(1, 1, 1, 1)), [3, 0, 1, 2, 3, -1, -1, -1])
        self.assertEqual(plan_of(*sized(1, 1, 1, 1, 1)), [4, 0, 1, 2, 3, 4, -1, -1, -1, -1])
        self.assertEqual(plan_of(*sized(2, 2, 1)), [4 + 2, 0, 1, 2, -1, -1])
        self.assertEqual(plan_of(*sized(2, 2, 2, 2, 2)), [32 + 4 + 8 + 4, 0, 1, -1, 2, 3, 4, -1, -1, -1])

    def test_of_partings_with_as_many_the_first_number_in_which_they_differ(self):
        self.assertEqual(plan_of(*sized(1, 2, 2)), [4 + 2, 0, 1, -1, 2, -1])
        self.assertEqual(plan_of(*sized(2, 2, 2, 2)), [16 + 4 + 4, 0, 1, -1, 2, 3, -1, -1])
        every = [(2, [(0, 0), (0, 1), (1, 0), (1, 1)])]
        ring = [atom(0, "v0", "v1"), atom(0, "v2", "v3"), atom(0, "v1", "v2"), atom(0, "v3", "v0")]
        self.assertEqual(plan_of(every, *ring), [16 + 8 + 8, 0, 2, -1, 1, 3, -1, -1])
        # 0, 1, 4 on the first side cost as much as 0, 2, 3
        pairs = [atom(1, "v0"), atom(0, "v1"), atom(0, "v2"), atom(0, "v2"), atom(0, "v1")]
        self.assertEqual(plan_of([*THREES, (1, [(1,), (2,)])], *pairs),
                         [18 + 6 + 3 + 3, 0, 1, 4, -1, -1, 2, 3, -1, -1])

    def test_an_atom_without_rows(self):
        self.assertEqual(plan_of(*sized(0, 2, 2)), [0, 0, 1, -1, 2, -1])
        self.assertEqual(plan_of(*sized(2, 2, 0)), [0, 0, 1, 2, -1, -1])
        self.assertEqual(plan_of(*sized(2, 0, 2, 2)), [0, 0, 1, 2, -1, 3, -1, -1])

    def test_a_plan_may_cost_less_than_every_order(self):
        calls = [*asked(THREES, *[atom(0, f"v{variable}") for variable in (0, 0, 1, 1)]), order, plan]
        self.assertEqual(told(*calls)[-2:], [[3 + 9 + 9, 0, 1, 2, 3], [3 + 3 + 9, 0, 1, -1, 2, 3, -1, -1]])

    def test_rows_that_come_behind_the_question(self):
        calls = [*asked(*sized(1, 2, 2)), plan, row(0, 1), row(0, 2), plan]
        self.assertEqual([told(*calls)[-4], told(*calls)[-1]], [[6, 0, 1, -1, 2, -1], [16, 0, 1, 2, -1, -1]])

    def test_other_calls_change_nothing(self):
        start = asked(*sized(3, 1, 2))
        for call in (tree, left(2), count, answered(0), answered(5), order, cost(0, 1, 2), cost(0), plan, table(5)):
            self.assertEqual(told_last(*start, plan, call, plan), [8, 0, 1, 2, -1, -1])

    def test_no_question(self):
        self.assertEqual(told(plan), [[-5]])
        self.assertEqual(told_last(*asked(*sized(1, 1)), begin, plan), [-5])


class PlanByTheWords(unittest.TestCase):
    def test_mixed_questions(self):
        for seed in range(300):
            tables, atoms = mixed_question(seed)
            counts = counts_by_the_words(tables, atoms)
            every = tuple(range(len(atoms)))
            with self.subTest(tables=tables, atoms=atoms):
                given = plan_of(tables, *written(atoms))
                expected = plan_by_the_words(counts, every)
                self.assertEqual(given, [expected[0], *expected[1]])
                self.assertEqual(cost_of_told(counts, given[1:]), (given[0], every))
                self.assertEqual(given[0], least_cost(counts, every))


if __name__ == "__main__":
    unittest.main()
