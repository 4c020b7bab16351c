"""Promise 4: answers."""

import itertools
import unittest

from tests.helper import (GREATEST, LEAST, answered, asked, atom, begin, count, left, mixed_question, order, plan,
                          question, row, table, told, told_last, tree, ways_by_the_words, written)

PATH = [(2, [(1, 2), (2, 3), (2, 4), (0, 2)])], atom(0, "v0", "v1"), atom(0, "v1", "v2")


def answered_of(tables, *atoms, variables):
    return told_last(*asked(tables, *atoms), answered(*variables))


def rows_by_the_words(ways, variables):
    """Every way written out, then each row once, in order."""
    values = [{name: value for bound in way for name, value in bound.items()} for way in ways]
    rows = sorted({tuple(bound[f"v{variable}"] for variable in variables) for bound in values})
    return [len(rows), *[value for values in rows for value in values]]


class Answers(unittest.TestCase):
    def test_one_atom(self):
        tables = [(2, [(3, 4), (1, 2)])]
        self.assertEqual(answered_of(tables, atom(0, "v0", "v1"), variables=[0, 1]), [2, 1, 2, 3, 4])
        self.assertEqual(answered_of(tables, atom(0, "v0", "v1"), variables=[1]), [2, 2, 4])
        self.assertEqual(answered_of([(2, [])], atom(0, "v0", "v1"), variables=[0, 1]), [0])

    def test_path(self):
        self.assertEqual(answered_of(*PATH, variables=[0, 1, 2]), [4, 0, 2, 3, 0, 2, 4, 1, 2, 3, 1, 2, 4])
        self.assertEqual(answered_of(*PATH, variables=[0, 2]), [4, 0, 3, 0, 4, 1, 3, 1, 4])

    def test_values_stand_in_the_order_of_the_list(self):
        self.assertEqual(answered_of(*PATH, variables=[2, 0]), [4, 3, 0, 3, 1, 4, 0, 4, 1])
        self.assertEqual(answered_of(*PATH, variables=[2, 1, 0]), [4, 3, 2, 0, 3, 2, 1, 4, 2, 0, 4, 2, 1])

    def test_each_row_once(self):
        self.assertEqual(answered_of(*PATH, variables=[1]), [1, 2])
        self.assertEqual(answered_of(*PATH, variables=[0]), [2, 0, 1])
        self.assertEqual(answered_of(*PATH, variables=[2, 1]), [2, 3, 2, 4, 2])

    def test_rows_are_in_order_by_value(self):
        tables = [(2, [(10, 1), (9, 1), (-1, 2), (-10, 2), (LEAST, 0), (GREATEST, 0), (9, -1)])]
        self.assertEqual(answered_of(tables, atom(0, "v0", "v1"), variables=[0]),
                         [6, LEAST, -10, -1, 9, 10, GREATEST])
        self.assertEqual(answered_of(tables, atom(0, "v0", "v1"), variables=[1, 0]),
                         [7, -1, 9, 0, LEAST, 0, GREATEST, 1, 9, 1, 10, 2, -10, 2, -1])

    def test_triangle(self):
        ring = [atom(0, "v0", "v1"), atom(0, "v1", "v2"), atom(0, "v2", "v0")]
        tables = [(2, [(1, 2), (2, 3), (3, 1), (2, 1)])]
        self.assertEqual(answered_of(tables, *ring, variables=[0, 1, 2]), [3, 1, 2, 3, 2, 3, 1, 3, 1, 2])
        self.assertEqual(answered_of(tables, *ring, variables=[1]), [3, 1, 2, 3])
        self.assertEqual(answered_of([(2, [(1, 0), (0, 1)])], *ring, variables=[0]), [0])

    def test_empty_list_of_variables(self):
        self.assertEqual(answered_of(*PATH, variables=[]), [1])
        self.assertEqual(answered_of([(2, [(1, 2)])], *PATH[1:], variables=[]), [0])
        self.assertEqual(answered_of([(0, [()])], atom(0), variables=[]), [1])
        self.assertEqual(answered_of([(0, [])], atom(0), variables=[]), [0])

    def test_the_same_variable_twice_in_the_list(self):
        self.assertEqual(answered_of(*PATH, variables=[0, 0]), [2, 0, 0, 1, 1])
        self.assertEqual(answered_of(*PATH, variables=[2, 0, 2]), [4, 3, 0, 3, 3, 1, 3, 4, 0, 4, 4, 1, 4])
        self.assertEqual(answered_of(*PATH, variables=[1, 1, 0, 1]), [2, 2, 2, 0, 2, 2, 2, 1, 2])

    def test_a_hundred_variables(self):
        self.assertEqual(answered_of(*PATH, variables=[0] * 100), [2] + [0] * 100 + [1] * 100)
        wide = [2, 0] * 50
        rows = [(3, 0), (3, 1), (4, 0), (4, 1)]
        self.assertEqual(answered_of(*PATH, variables=wide), [4, *[value for pair in rows for value in pair * 50]])

    def test_all_ten_variables(self):
        tables = [(4, [(1, 2, 3, 4)]), (2, [(5, 6)])]
        atoms = [atom(0, "v9", "v8", "v7", "v6"), atom(0, "v5", "v4", "v3", "v2"), atom(1, "v1", "v0")]
        self.assertEqual(answered_of(tables, *atoms, variables=range(10)), [1, 6, 5, 4, 3, 2, 1, 4, 3, 2, 1])

    def test_constants_and_the_same_variable_twice_in_an_atom(self):
        tables = [(2, [(5, 1), (5, 2), (6, 1), (2, 2)])]
        self.assertEqual(answered_of(tables, atom(0, 5, "v4"), variables=[4]), [2, 1, 2])
        self.assertEqual(answered_of(tables, atom(0, 5, "v4"), atom(0, 6, "v4"), variables=[4]), [1, 1])
        self.assertEqual(answered_of(tables, atom(0, "v4", "v4"), variables=[4]), [1, 2])
        self.assertEqual(answered_of(tables, atom(0, "v4", "v4"), atom(0, "v3", "v4"), variables=[3, 4]),
                         [2, 2, 2, 5, 2])

    def test_atoms_that_share_no_variable(self):
        tables = [(1, [(2,), (1,)]), (1, [(8,), (7,)])]
        atoms = [atom(0, "v0"), atom(1, "v1")]
        self.assertEqual(answered_of(tables, *atoms, variables=[0, 1]), [4, 1, 7, 1, 8, 2, 7, 2, 8])
        self.assertEqual(answered_of(tables, *atoms, variables=[1, 0]), [4, 7, 1, 7, 2, 8, 1, 8, 2])
        self.assertEqual(answered_of(tables, *atoms, variables=[1]), [2, 7, 8])

    def test_atoms_without_variables(self):
        tables = [(2, [(1, 2)]), (1, [(9,), (8,)])]
        self.assertEqual(answered_of(tables, atom(0, 1, 2), atom(1, "v0"), variables=[0]), [2, 8, 9])
        self.assertEqual(answered_of(tables, atom(1, "v0"), atom(0, 2, 1), variables=[0]), [0])
        self.assertEqual(answered_of(tables, atom(0, 1, 2), variables=[]), [1])

    def test_an_atom_without_rows(self):
        tables = [(1, [(1,), (2,)]), (1, [])]
        self.assertEqual(answered_of(tables, atom(0, "v0"), atom(1, "v1"), variables=[0]), [0])
        self.assertEqual(answered_of(tables, atom(1, "v1"), atom(0, "v0"), variables=[0, 1]), [0])
        self.assertEqual(answered_of(tables, atom(0, "v0"), atom(1, "v1"), variables=[]), [0])

    def test_rows_that_come_behind_the_question(self):
        calls = [table(1), table(1), row(0, 3), question(atom(0, "v0"), atom(1, "v0")), answered(0), row(1, 3),
                 answered(0), row(0, 2), row(1, 2), answered(0)]
        self.assertEqual(told(*calls)[4:], [[0], [1], [1, 3], [1], [1], [2, 2, 3]])

    def test_several_behind_one_another(self):
        calls = [*asked(*PATH), answered(0), answered(2, 1), count, answered(), answered(0), tree, left(0), answered(2)]
        self.assertEqual(told(*calls)[6:], [[2, 0, 1], [2, 3, 2, 4, 2], [4], [1], [2, 0, 1], [1, 1, 0, 1, 1, 1],
                                            [2, 0, 2, 1, 2], [2, 3, 4]])

    def test_not_a_variable_that_an_atom_has(self):
        start = asked(*PATH)
        for wrong in ([3], [9], [10], [-1], [2000000000], [-2000000000], [0, 3], [3, 0], [0, 1, 2, -1], [0] * 99 + [4]):
            with self.subTest(wrong=wrong):
                self.assertEqual(told(*start, answered(*wrong))[-1], [-1])

    def test_no_atom_has_a_variable(self):
        start = asked([(1, [(0,)]), (0, [()])], atom(0, 0), atom(1))
        for variable in (0, 1, 9):
            self.assertEqual(told_last(*start, answered(variable)), [-1])
        self.assertEqual(told_last(*start, answered()), [1])

    def test_a_value_is_not_a_variable(self):
        start = asked([(2, [(3, 4)])], atom(0, 3, "v4"))
        self.assertEqual(told(*start, answered(3), answered(4))[-2:], [[-1], [1, 4]])

    def test_wrong_without_a_way_too(self):
        start = asked([(1, [])], atom(0, "v0"))
        self.assertEqual(told(*start, answered(1), answered(0))[-2:], [[-1], [0]])

    def test_variables_of_an_earlier_question_are_not_had(self):
        calls = [table(1), row(0, 5), question(atom(0, "v0")), answered(0), question(atom(0, "v1")), answered(0),
                 answered(1)]
        self.assertEqual(told(*calls)[3:], [[1, 5], [1], [-1], [1, 5]])

    def test_refused_changes_nothing(self):
        behind = [tree, left(0), left(1), count, answered(0, 1, 2), order, plan, row(0, 1, 2), row(0, 9, 9), table(2)]
        start = asked(*PATH)
        expected = told(*start, *behind)[len(start):]
        for wrong in (answered(3), answered(0, -1), answered(10, 0)):
            self.assertEqual(told(*start, wrong, *behind)[len(start):], [[-1], *expected])

    def test_no_question_counts_ahead_of_a_wrong_variable(self):
        self.assertEqual(told(answered(0), answered(-1), answered()), [[-5], [-5], [-5]])
        self.assertEqual(told(*asked(*PATH), begin, answered(10), answered(0))[-2:], [[-5], [-5]])


class AnswersByTheWords(unittest.TestCase):
    def test_mixed_questions(self):
        for seed in range(300):
            tables, atoms = mixed_question(seed)
            ways = ways_by_the_words(tables, atoms)
            names = sorted({int(term[1:]) for _, *terms in atoms for term in terms if isinstance(term, str)})
            lists = [list(some) for length in range(3) for some in itertools.permutations(names, length)]
            lists += [names, names[::-1], names + names]
            with self.subTest(tables=tables, atoms=atoms):
                given = told(*asked(tables, *written(atoms)), *[answered(*variables) for variables in lists])
                expected = [rows_by_the_words(ways, variables) for variables in lists]
                self.assertEqual(given[-len(lists):], expected)


if __name__ == "__main__":
    unittest.main()
