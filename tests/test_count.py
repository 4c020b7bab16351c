"""Promise 4: count."""

import unittest

from tests.helper import (GREATEST, LEAST, answered, asked, atom, count, left, mixed_question, plan, question,
                          row, table, told, told_last, tree, ways_by_the_words, written)


def count_of(tables, *atoms):
    return told_last(*asked(tables, *atoms), count)


class Count(unittest.TestCase):
    def test_one_atom_has_as_many_ways_as_rows(self):
        self.assertEqual(count_of([(2, [(1, 2), (3, 4), (1, 4)])], atom(0, "v0", "v1")), [3])
        self.assertEqual(count_of([(1, [(7,)])], atom(0, "v0")), [1])
        self.assertEqual(count_of([(2, [])], atom(0, "v0", "v1")), [0])

    def test_path(self):
        tables = [(2, [(1, 2), (2, 3), (2, 4)])]
        self.assertEqual(count_of(tables, atom(0, "v0", "v1"), atom(0, "v1", "v2")), [2])
        self.assertEqual(count_of(tables, atom(0, "v0", "v1"), atom(0, "v2", "v1")), [3])
        self.assertEqual(count_of(tables, atom(0, "v0", "v1"), atom(0, "v0", "v2")), [5])

    def test_path_of_five_atoms(self):
        every = [(2, [(0, 0), (0, 1), (1, 0), (1, 1)])]
        self.assertEqual(count_of(every, *[atom(0, f"v{k}", f"v{k + 1}") for k in range(5)]), [64])
        rows = [(2, [(0, 0), (0, 1), (1, 0)])]
        self.assertEqual(count_of(rows, *[atom(0, f"v{k}", f"v{k + 1}") for k in range(5)]), [21])

    def test_triangle(self):
        ring = [atom(0, "v0", "v1"), atom(0, "v1", "v2"), atom(0, "v2", "v0")]
        self.assertEqual(count_of([(2, [(1, 2), (2, 3), (3, 1), (2, 1)])], *ring), [3])
        self.assertEqual(count_of([(2, [(1, 2), (2, 3), (1, 3)])], *ring), [0])
        self.assertEqual(count_of([(2, [(5, 5), (6, 6)])], *ring), [2])

    def test_ring_of_five(self):
        ring = [atom(0, f"v{k}", f"v{(k + 1) % 5}") for k in range(5)]
        steps = [(2, [(k, (k + 1) % 5) for k in range(5)])]
        self.assertEqual(count_of(steps, *ring), [5])
        self.assertEqual(count_of([(2, [(0, 1), (1, 0)])], *ring), [0])
        self.assertEqual(count_of([(2, [(0, 1), (1, 0), (1, 1)])], *ring), [11])

    def test_agreeing_two_by_two_is_no_way_alone(self):
        ring = [atom(0, "v0", "v1"), atom(0, "v1", "v2"), atom(0, "v2", "v0")]
        calls = [*asked([(2, [(1, 0), (0, 1)])], *ring), left(0), count]
        self.assertEqual(told(*calls)[-2:], [[2, 0, 1, 1, 0], [0]])

    def test_a_star(self):
        tables = [(2, [(1, 1), (1, 2), (1, 3), (2, 1), (2, 2)])]
        self.assertEqual(count_of(tables, *[atom(0, "v0", f"v{k}") for k in range(1, 5)]), [81 + 16])

    def test_the_atom_that_ties_the_others_comes_last_or_first(self):
        tables = [(1, [(1,), (2,), (3,)]), (3, [(1, 2, 3), (3, 3, 3), (4, 1, 1)])]
        ones = [atom(0, "v0"), atom(0, "v1"), atom(0, "v2")]
        tying = atom(1, "v2", "v0", "v1")
        self.assertEqual(count_of(tables, *ones, tying), [2])
        self.assertEqual(count_of(tables, tying, *ones), [2])
        self.assertEqual(count_of(tables, *ones[:2], tying, *ones[2:]), [2])

    def test_constants(self):
        tables = [(2, [(5, 1), (5, 2), (6, 1), (LEAST, 2), (GREATEST, 2)])]
        self.assertEqual(count_of(tables, atom(0, 5, "v0")), [2])
        self.assertEqual(count_of(tables, atom(0, 5, "v0"), atom(0, 6, "v0")), [1])
        self.assertEqual(count_of(tables, atom(0, 5, "v0"), atom(0, "v1", "v0")), [5])
        self.assertEqual(count_of(tables, atom(0, LEAST, "v0"), atom(0, GREATEST, "v0")), [1])

    def test_the_same_variable_twice_in_an_atom(self):
        tables = [(2, [(1, 1), (1, 2), (2, 2), (3, 1)])]
        self.assertEqual(count_of(tables, atom(0, "v3", "v3")), [2])
        self.assertEqual(count_of(tables, atom(0, "v3", "v3"), atom(0, "v4", "v3")), [4])
        wide = [(4, [(1, 2, 1, 2), (1, 2, 1, 3), (0, 0, 0, 0), (1, 1, 0, 1)])]
        self.assertEqual(count_of(wide, atom(0, "v0", "v1", "v0", "v1")), [2])

    def test_the_same_atom_again(self):
        tables = [(1, [(1,), (2,), (3,)])]
        self.assertEqual(count_of(tables, *[atom(0, "v0")] * 5), [3])

    def test_two_variables_must_both_agree(self):
        tables = [(2, [(1, 2), (3, 4)]), (2, [(1, 4), (3, 4), (4, 3)])]
        self.assertEqual(count_of(tables, atom(0, "v0", "v9"), atom(1, "v0", "v9")), [1])
        self.assertEqual(count_of(tables, atom(0, "v0", "v9"), atom(1, "v9", "v0")), [1])
        self.assertEqual(count_of(tables, atom(0, "v0", "v9"), atom(1, "v9", "v8")), [1])

    def test_atoms_that_share_no_variable(self):
        tables = [(1, [(1,), (2,), (3,)]), (1, [(1,), (7,)])]
        self.assertEqual(count_of(tables, atom(0, "v0"), atom(1, "v1")), [6])
        self.assertEqual(count_of(tables, atom(0, "v0"), atom(0, "v1"), atom(1, "v2"), atom(1, "v0")), [1 * 3 * 2])

    def test_ways_with_the_same_values_are_others_if_a_row_is_another(self):
        tables = [(2, [(1, 1), (1, 2), (1, 3)])]
        calls = [*asked(tables, atom(0, "v0", "v1"), atom(0, "v0", "v2")), answered(0), count]
        self.assertEqual(told(*calls)[-2:], [[1, 1], [9]])

    def test_atoms_without_variables(self):
        tables = [(2, [(1, 2), (3, 4)]), (1, [(8,), (9,)])]
        self.assertEqual(count_of(tables, atom(0, 1, 2)), [1])
        self.assertEqual(count_of(tables, atom(0, 1, 2), atom(1, "v0")), [2])
        self.assertEqual(count_of(tables, atom(0, 1, 4), atom(1, "v0")), [0])
        self.assertEqual(count_of(tables, atom(1, "v0"), atom(0, 1, 4)), [0])

    def test_tables_without_columns(self):
        self.assertEqual(count_of([(0, [()])], atom(0)), [1])
        self.assertEqual(count_of([(0, [()])], *[atom(0)] * 5), [1])
        self.assertEqual(count_of([(0, [])], atom(0)), [0])
        self.assertEqual(count_of([(0, []), (1, [(5,)])], atom(0), atom(1, "v0")), [0])

    def test_an_atom_without_rows(self):
        tables = [(1, [(1,), (2,)]), (1, [])]
        for place in range(3):
            atoms = [atom(0, "v0"), atom(0, "v1"), atom(0, "v2")]
            atoms[place] = atom(1, "v3")
            self.assertEqual(count_of(tables, *atoms), [0])

    def test_the_value_0_is_like_any_other(self):
        tables = [(2, [(0, 0), (0, 1), (1, 0)])]
        self.assertEqual(count_of(tables, atom(0, "v0", 0), atom(0, 0, "v0")), [2])

    def test_rows_that_come_behind_the_question(self):
        calls = [table(1), table(1), row(0, 1), question(atom(0, "v0"), atom(1, "v0")), count, row(1, 1), count,
                 row(0, 0), count, row(1, 0), count, row(1, 0), count]
        self.assertEqual(told(*calls)[3:], [[2], [0], [1], [1], [1], [1], [1], [2], [0], [2]])

    def test_the_question_that_counts_is_the_last_one(self):
        calls = [table(1), row(0, 1), row(0, 2), question(atom(0, "v0"), atom(0, "v1")), count,
                 question(atom(0, "v0")), count, question([5]), count, question(), count]
        self.assertEqual(told(*calls)[4:], [[4], [1], [2], [-1], [2], [0], [-5]])

    def test_other_calls_change_nothing(self):
        calls = [*asked([(2, [(1, 2), (2, 2)])], atom(0, "v0", "v1"), atom(0, "v1", "v2"))]
        between = [tree, left(0), answered(0), answered(9), plan, count]
        self.assertEqual(told_last(*calls, count), [2])
        for call in between:
            self.assertEqual(told_last(*calls, count, call, count), [2])

    def test_no_question(self):
        self.assertEqual(told(count, table(1), row(0, 1), count), [[-5], [0], [1], [-5]])


class CountByTheWords(unittest.TestCase):
    def test_mixed_questions(self):
        seen = set()
        for seed in range(300):
            tables, atoms = mixed_question(seed)
            ways = ways_by_the_words(tables, atoms)
            with self.subTest(tables=tables, atoms=atoms):
                self.assertEqual(count_of(tables, *written(atoms)), [len(ways)])
            seen.add((len(atoms), min(len(ways), 3)))
        self.assertEqual(len(seen), 20, "the questions don't have 0, 1, 2 and more ways for 1 to 5 atoms each")


if __name__ == "__main__":
    unittest.main()
