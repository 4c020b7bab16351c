"""Promise 3: left."""

import itertools
import unittest

from tests.helper import (GREATEST, LEAST, agree, asked, atom, bound_by, left, question, row, table, told, told_last,
                          tree, written)


def left_of(tables, *atoms):
    """What left answers of each atom."""
    return told(*asked(tables, *atoms), *[left(number) for number in range(len(atoms))])[-len(atoms):]


def left_by_the_words(tables, atoms):
    """Throws out one row after another, the last that may go first."""
    standing = []
    for number, (table_number, *terms) in enumerate(atoms):
        for values in tables[table_number][1]:
            if bound_by(terms, values) is not None:
                standing.append((number, values, bound_by(terms, values)))
    going = True
    while going:
        going = [entry for entry in standing if lacks_partner(entry, standing, len(atoms))]
        if going:
            standing.remove(going[-1])
    return [flat(sorted(values for number, values, _ in standing if number == k)) for k in range(len(atoms))]


def lacks_partner(entry, standing, how_many):
    partners = {number for number, _, bound in standing if agree(bound, entry[2])}
    return len(partners | {entry[0]}) < how_many


def flat(rows):
    return [len(rows), *[value for values in rows for value in values]]


class Left(unittest.TestCase):
    def test_one_atom_has_all_that_fit(self):
        self.assertEqual(left_of([(2, [(1, 2), (3, 4)])], atom(0, "v0", "v1")), [[2, 1, 2, 3, 4]])
        self.assertEqual(left_of([(2, [])], atom(0, "v0", "v1")), [[0]])

    def test_rows_are_in_order(self):
        rows = [(2, 1), (-1, 5), (2, -3), (10, 0), (-1, -5), (9, 9), (LEAST, GREATEST), (GREATEST, LEAST)]
        self.assertEqual(left_of([(2, rows)], atom(0, "v0", "v1")),
                         [[8, LEAST, GREATEST, -1, -5, -1, 5, 2, -3, 2, 1, 9, 9, 10, 0, GREATEST, LEAST]])

    def test_order_goes_by_the_columns_not_the_variables(self):
        rows = [(1, 9), (2, 0)]
        self.assertEqual(left_of([(2, rows)], atom(0, "v1", "v0")), [[2, 1, 9, 2, 0]])

    def test_ten_rows_of_four_columns(self):
        rows = [(0, 0, 0, value) for value in range(9, -1, -1)]
        expected = [10] + [number for value in range(10) for number in (0, 0, 0, value)]
        self.assertEqual(left_of([(4, rows)], atom(0, "v0", "v1", "v2", "v3")), [expected])

    def test_rows_without_a_partner_go(self):
        tables = [(2, [(1, 2), (3, 4)]), (2, [(2, 7), (5, 8)])]
        self.assertEqual(left_of(tables, atom(0, "v0", "v1"), atom(1, "v1", "v2")), [[1, 1, 2], [1, 2, 7]])

    def test_a_row_goes_because_another_has_gone(self):
        tables = [(2, [(1, 2), (5, 6)]), (2, [(2, 3), (6, 7)]), (2, [(3, 4)])]
        atoms = [atom(0, "v0", "v1"), atom(1, "v1", "v2"), atom(2, "v2", "v3")]
        self.assertEqual(left_of(tables, *atoms), [[1, 1, 2], [1, 2, 3], [1, 3, 4]])
        backwards = [atoms[2], atoms[1], atoms[0]]
        self.assertEqual(left_of(tables, *backwards), [[1, 3, 4], [1, 2, 3], [1, 1, 2]])

    def test_a_row_goes_at_the_far_end_of_five_atoms(self):
        tables = [(2, [(0, 1), (10, 11)]), (2, [(1, 2), (11, 12)]), (2, [(2, 3), (12, 13)]),
                  (2, [(3, 4), (13, 14)]), (2, [(4, 5)])]
        atoms = [atom(k, f"v{k}", f"v{k + 1}") for k in range(5)]
        self.assertEqual(left_of(tables, *atoms), [[1, k, k + 1] for k in range(5)])

    def test_all_go_one_behind_another(self):
        tables = [(2, [(1, 2), (2, 3), (3, 4)])]
        ring = [atom(0, "v0", "v1"), atom(0, "v1", "v2"), atom(0, "v2", "v0")]
        self.assertEqual(left_of(tables, *ring), [[0], [0], [0]])

    def test_rows_stay_that_agree_two_by_two_without_a_way(self):
        ring = [atom(0, "v0", "v1"), atom(0, "v1", "v2"), atom(0, "v2", "v0")]
        self.assertEqual(left_of([(2, [(1, 0), (0, 1)])], *ring), [[2, 0, 1, 1, 0]] * 3)

    def test_constants(self):
        tables = [(2, [(5, 1), (5, 2), (6, 1)])]
        self.assertEqual(left_of(tables, atom(0, 5, "v0")), [[2, 5, 1, 5, 2]])
        self.assertEqual(left_of(tables, atom(0, "v0", 1)), [[2, 5, 1, 6, 1]])
        self.assertEqual(left_of(tables, atom(0, 5, "v0"), atom(0, 6, "v0")), [[1, 5, 1], [1, 6, 1]])

    def test_constants_at_the_edges(self):
        tables = [(2, [(LEAST, 1), (GREATEST, 2), (0, 3)])]
        self.assertEqual(left_of(tables, atom(0, LEAST, "v0")), [[1, LEAST, 1]])
        self.assertEqual(left_of(tables, atom(0, GREATEST, "v0")), [[1, GREATEST, 2]])

    def test_the_same_variable_twice(self):
        tables = [(2, [(1, 1), (1, 2), (2, 2)]), (1, [(2,), (3,)])]
        self.assertEqual(left_of(tables, atom(0, "v3", "v3")), [[2, 1, 1, 2, 2]])
        self.assertEqual(left_of(tables, atom(0, "v3", "v3"), atom(1, "v3")), [[1, 2, 2], [1, 2]])
        wide = [(4, [(1, 2, 1, 2), (1, 2, 1, 3), (0, 0, 0, 0), (1, 1, 0, 1)])]
        self.assertEqual(left_of(wide, atom(0, "v0", "v1", "v0", "v1")), [[2, 0, 0, 0, 0, 1, 2, 1, 2]])

    def test_the_value_0_is_like_any_other(self):
        tables = [(2, [(0, 0), (0, 1), (1, 0)])]
        self.assertEqual(left_of(tables, atom(0, 0, "v0")), [[2, 0, 0, 0, 1]])
        self.assertEqual(left_of(tables, atom(0, "v0", "v0")), [[1, 0, 0]])
        self.assertEqual(left_of(tables, atom(0, 1, "v0"), atom(0, "v0", 1)), [[1, 1, 0], [1, 0, 1]])

    def test_the_same_table_in_two_atoms(self):
        tables = [(2, [(1, 2), (2, 3), (3, 4)])]
        self.assertEqual(left_of(tables, atom(0, "v0", "v1"), atom(0, "v1", "v2")), [[2, 1, 2, 2, 3], [2, 2, 3, 3, 4]])

    def test_two_variables_must_both_agree(self):
        tables = [(2, [(1, 2), (3, 4)]), (2, [(1, 4), (3, 4)])]
        self.assertEqual(left_of(tables, atom(0, "v0", "v9"), atom(1, "v0", "v9")), [[1, 3, 4], [1, 3, 4]])
        self.assertEqual(left_of(tables, atom(0, "v0", "v9"), atom(1, "v9", "v0")), [[0], [0]])

    def test_an_atom_none_of_whose_rows_is_left(self):
        tables = [(1, [(1,), (2,)]), (1, [(3,)]), (1, [(4,)])]
        self.assertEqual(left_of(tables, atom(0, "v0"), atom(1, "v0"), atom(2, "v5")), [[0], [0], [0]])

    def test_an_atom_without_rows_lets_all_go(self):
        tables = [(1, [(1,), (2,)]), (1, [])]
        self.assertEqual(left_of(tables, atom(0, "v0"), atom(1, "v1")), [[0], [0]])
        self.assertEqual(left_of(tables, atom(0, "v0"), atom(0, 3)), [[0], [0]])

    def test_atoms_that_share_nothing(self):
        tables = [(1, [(1,), (2,)]), (1, [(7,)])]
        self.assertEqual(left_of(tables, atom(0, "v0"), atom(1, "v1")), [[2, 1, 2], [1, 7]])

    def test_atoms_without_variables(self):
        tables = [(2, [(1, 2), (3, 4)]), (1, [(9,)])]
        self.assertEqual(left_of(tables, atom(0, 1, 2)), [[1, 1, 2]])
        self.assertEqual(left_of(tables, atom(0, 1, 2), atom(1, "v0")), [[1, 1, 2], [1, 9]])
        self.assertEqual(left_of(tables, atom(0, 1, 4), atom(1, "v0")), [[0], [0]])

    def test_tables_without_columns(self):
        self.assertEqual(left_of([(0, [()])], atom(0)), [[1]])
        self.assertEqual(left_of([(0, [])], atom(0)), [[0]])
        self.assertEqual(left_of([(0, [()]), (1, [(5,)])], atom(0), atom(1, "v0")), [[1], [1, 5]])
        self.assertEqual(left_of([(0, []), (1, [(5,)])], atom(0), atom(1, "v0")), [[0], [0]])

    def test_rows_that_come_behind_the_question(self):
        calls = [table(1), table(1), row(0, 1), question(atom(0, "v0"), atom(1, "v0")), left(0), row(1, 1), left(0),
                 row(0, 0), row(1, 0), left(0), left(1)]
        self.assertEqual(told(*calls)[3:], [[2], [0], [1], [1, 1], [1], [1], [2, 0, 1], [2, 0, 1]])

    def test_tables_that_come_behind_the_question(self):
        calls = [table(1), row(0, 1), question(atom(0, "v0")), table(1), row(1, 2), left(0)]
        self.assertEqual(told_last(*calls), [1, 1])

    def test_asked_for_again(self):
        calls = [table(1), row(0, 1), row(0, 2), question(atom(0, "v0"), atom(0, 2)), left(0), left(1), left(0), tree]
        self.assertEqual(told(*calls)[-4:], [[2, 1, 2], [1, 2], [2, 1, 2], [1, 1, 0, 1, 1, 1]])

    def test_throwing_out_leaves_the_table(self):
        calls = [table(1), row(0, 1), row(0, 2), question(atom(0, "v0"), atom(0, 3)), left(0),
                 question(atom(0, "v0")), left(0), row(0, 1)]
        self.assertEqual(told(*calls)[-4:], [[0], [1], [2, 1, 2], [0]])

    def test_no_such_atom(self):
        asked = [table(1), row(0, 1), question(atom(0, "v0"), atom(0, "v0"))]
        for number in (-1, 2, -2, 5, 2000000000, -2000000000):
            with self.subTest(number=number):
                self.assertEqual(told(*asked, left(number), left(1), tree)[3:], [[-1], [1, 1], [1, 1, 0, 1, 1, 1]])

    def test_fifth_atom(self):
        asked = [table(1), row(0, 1), question(*[atom(0, "v0")] * 5)]
        self.assertEqual(told(*asked, left(4), left(5))[-2:], [[1, 1], [-1]])

    def test_no_question_counts_ahead_of_no_such_atom(self):
        self.assertEqual(told(left(0), left(-1), left(5)), [[-5], [-5], [-5]])


class LeftByTheWords(unittest.TestCase):
    QUESTIONS = (
        [(0, "v0", "v1"), (1, "v1", "v2")],
        [(0, "v0", "v1"), (1, "v1", "v2"), (0, "v2", "v0")],
        [(0, "v0", "v1"), (1, "v1", "v0"), (1, "v1", "v1")],
        [(0, "v0", 1), (1, "v0", "v1"), (0, "v1", "v2"), (1, "v3", "v2")],
        [(1, 0, 1), (0, "v5", "v6")],
    )

    def test_all_tables_of_two_columns_over_two_values(self):
        cells = list(itertools.product(range(2), repeat=2))
        some = [rows for length in range(5) for rows in itertools.combinations(cells, length)]
        for atoms in self.QUESTIONS:
            for first, second in itertools.product(some, repeat=2):
                tables = [(2, first), (2, second)]
                self.assertEqual(left_of(tables, *written(atoms)), left_by_the_words(tables, atoms))

    def test_paths_within_a_table_of_ten_rows(self):
        for step in range(1, 7):
            rows = [(k, (k * step + 1) % 11) for k in range(10)]
            atoms = [(0, f"v{k}", f"v{k + 1}") for k in range(5)]
            tables = [(2, rows)]
            self.assertEqual(left_of(tables, *written(atoms)), left_by_the_words(tables, atoms))


if __name__ == "__main__":
    unittest.main()
