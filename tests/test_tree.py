"""Promise 3: tree."""

import itertools
import unittest

from tests.helper import atom, left, question, row, table, told, told_last, tree


def tree_of(*variables):
    """What tree answers of atoms with just these variables; table k has k columns."""
    tables = [table(columns) for columns in range(5)]
    atoms = [atom(len(names), *[f"v{name}" for name in names]) for names in variables]
    return told_last(*tables, question(*atoms), tree)


def parted_tree(numbers):
    """The answer as: hangs as a tree, the pairs, what is left."""
    behind = 2 + 2 * numbers[1]
    pairs = [tuple(numbers[k:k + 2]) for k in range(2, behind, 2)]
    standing = numbers[behind + 1:]
    assert len(standing) == numbers[behind], "what is left is counted wrongly"
    return numbers[0], pairs, standing


def hosts(variables, standing, number):
    shared = {name for name in variables[number] for other in standing
              if other != number and name in variables[other]}
    return [other for other in standing if other != number and shared <= set(variables[other])]


def trees_over(number):
    """Every tree over this many atoms, as lists of edges."""
    edges = list(itertools.combinations(range(number), 2))
    for chosen in itertools.combinations(edges, number - 1):
        if connected(set(range(number)), chosen):
            yield chosen


def connected(nodes, edges):
    if not nodes:
        return True
    reached = {min(nodes)}
    while True:
        wider = reached | {b for a, b in edges if a in reached and b in nodes}
        wider |= {a for a, b in edges if b in reached and a in nodes}
        if wider == reached:
            return reached == nodes
        reached = wider


def has_join_tree(variables):
    """There is a tree of the atoms in which those with one variable always hang together."""
    names = {name for own in variables for name in own}
    having = [{k for k, own in enumerate(variables) if name in own} for name in names]
    return any(all(connected(nodes, [edge for edge in edges if set(edge) <= nodes]) for nodes in having)
               for edges in trees_over(len(variables)))


class Tree(unittest.TestCase):
    def test_one_atom(self):
        self.assertEqual(tree_of([]), [1, 0, 1, 0])
        self.assertEqual(tree_of([0, 1, 2, 3]), [1, 0, 1, 0])

    def test_two_atoms(self):
        self.assertEqual(tree_of([0, 1], [1, 2]), [1, 1, 0, 1, 1, 1])
        self.assertEqual(tree_of([0, 1], [0, 1]), [1, 1, 0, 1, 1, 1])

    def test_path(self):
        self.assertEqual(tree_of([0, 1], [1, 2], [2, 3]), [1, 2, 0, 1, 1, 2, 1, 2])

    def test_path_of_five_with_the_ends_in_the_middle(self):
        self.assertEqual(tree_of([1, 2], [2, 3], [0, 1], [3, 4], [4, 5]), [1, 4, 2, 0, 0, 1, 1, 3, 3, 4, 1, 4])

    def test_triangle(self):
        self.assertEqual(tree_of([0, 1], [1, 2], [2, 0]), [0, 0, 3, 0, 1, 2])

    def test_ring_of_four_and_five(self):
        self.assertEqual(tree_of([0, 1], [1, 2], [2, 3], [3, 0]), [0, 0, 4, 0, 1, 2, 3])
        self.assertEqual(tree_of([0, 1], [1, 2], [2, 3], [3, 4], [4, 0]), [0, 0, 5, 0, 1, 2, 3, 4])

    def test_triangle_with_what_hangs_on_it(self):
        self.assertEqual(tree_of([0, 1], [1, 2], [2, 0], [0, 3]), [0, 1, 3, 0, 3, 0, 1, 2])
        self.assertEqual(tree_of([5, 0], [0, 1], [1, 2], [2, 0], [6, 0]), [0, 2, 0, 1, 4, 1, 3, 1, 2, 3])

    def test_triangle_within_one_atom(self):
        self.assertEqual(tree_of([0, 1], [1, 2], [2, 0], [0, 1, 2]), [1, 3, 0, 3, 1, 3, 2, 3, 1, 3])

    def test_it_begins_with_the_first_atom_again(self):
        self.assertEqual(tree_of([0, 1, 2], [0, 1], [1, 2], [2, 0]), [1, 3, 1, 0, 2, 0, 0, 3, 1, 3])
        self.assertEqual(tree_of([0, 1, 2], [0], [1], [2]), [1, 3, 1, 0, 2, 0, 0, 3, 1, 3])

    def test_those_taken_off_do_not_count_any_more(self):
        self.assertEqual(tree_of([0, 1], [0, 1], [0]), [1, 2, 0, 1, 1, 2, 1, 2])

    def test_it_hangs_on_the_first_that_has_them(self):
        self.assertEqual(tree_of([0], [1, 2], [0, 1], [0, 2]), [0, 1, 0, 2, 3, 1, 2, 3])

    def test_nothing_shared(self):
        self.assertEqual(tree_of([0], [1]), [1, 1, 0, 1, 1, 1])
        self.assertEqual(tree_of([0, 1], [2, 3], [4, 5]), [1, 2, 0, 1, 1, 2, 1, 2])
        self.assertEqual(tree_of([6], [0, 1], [1, 2], [2, 0]), [0, 1, 0, 1, 3, 1, 2, 3])

    def test_atoms_without_variables(self):
        self.assertEqual(tree_of([], [], [], [], []), [1, 4, 0, 1, 1, 2, 2, 3, 3, 4, 1, 4])
        self.assertEqual(tree_of([0, 1], [1, 2], [], [2, 0]), [0, 1, 2, 0, 3, 0, 1, 3])

    def test_variables_0_and_9(self):
        self.assertEqual(tree_of([9, 0], [8, 9], [0, 8]), [0, 0, 3, 0, 1, 2])
        self.assertEqual(tree_of([9, 0], [8, 9], [0, 7]), [1, 2, 1, 0, 0, 2, 1, 2])

    def test_values_are_no_variables(self):
        calls = [table(2), question(atom(0, "v0", 1), atom(0, "v1", 2), atom(0, 0, "v2")), tree]
        self.assertEqual(told_last(*calls), [1, 2, 0, 1, 1, 2, 1, 2])
        ring = [atom(0, "v0", "v1"), atom(0, "v1", 2), atom(0, 2, "v0")]
        self.assertEqual(told_last(table(2), question(*ring), tree), [1, 2, 1, 0, 0, 2, 1, 2])

    def test_the_same_variable_twice_in_an_atom(self):
        calls = [table(2), question(atom(0, "v0", "v0"), atom(0, "v0", "v1"), atom(0, "v1", "v1")), tree]
        self.assertEqual(told_last(*calls), [1, 2, 0, 1, 1, 2, 1, 2])

    def test_rows_do_not_matter(self):
        asked = [question(atom(0, "v0", "v1"), atom(0, "v1", "v2")), tree]
        for rows in ([], [row(0, 1, 2)], [row(0, 1, 2), row(0, 2, 2)]):
            self.assertEqual(told_last(table(2), *rows, *asked), [1, 1, 0, 1, 1, 1])

    def test_asked_for_again_and_behind_left(self):
        calls = [table(2), question(atom(0, "v0", "v1"), atom(0, "v1", "v2")), tree, left(0), tree]
        self.assertEqual(told(*calls)[2:], [[1, 1, 0, 1, 1, 1], [0], [1, 1, 0, 1, 1, 1]])


class TreeByTheWords(unittest.TestCase):
    def check(self, variables):
        hangs, pairs, standing = parted_tree(tree_of(*variables))
        still = list(range(len(variables)))
        for number, host in pairs:
            self.assertEqual(number, [k for k in still if hosts(variables, still, k)][0])
            self.assertEqual(host, hosts(variables, still, number)[0])
            still.remove(number)
        self.assertEqual(standing, still)
        self.assertFalse([k for k in still if hosts(variables, still, k)])
        self.assertEqual(hangs, 1 if len(still) == 1 else 0)
        self.assertEqual(hangs == 1, has_join_tree(variables))

    def test_three_atoms_of_four_variables(self):
        some = [names for length in range(5) for names in itertools.combinations(range(4), length)]
        for variables in itertools.product(some, repeat=3):
            self.check(variables)

    def test_four_atoms_of_two_variables_each(self):
        some = list(itertools.combinations(range(4), 2)) + [(0, 1, 2)]
        for variables in itertools.product(some, repeat=4):
            self.check(variables)


if __name__ == "__main__":
    unittest.main()
