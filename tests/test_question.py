"""Promise 2: question, and -5 where there is none."""

import unittest

from tests.helper import (GREATEST, LEAST, answered, atom, begin, cost, count, left, order, plan, question, row, table,
                          told, told_last, tree)

NO_QUESTION_CALLS = {
    "tree": tree,
    "left": left(0),
    "left of no such atom": left(-1),
    "count": count,
    "answers": answered(0, 1),
    "answers of no variables": answered(),
    "answers of no such variable": answered(-1, 10),
    "order": order,
    "cost": cost(0),
    "cost of an empty list": cost(),
    "cost of what is no order": cost(0, 0, -1),
    "plan": plan,
}


def listed(*numbers):
    return [3, len(numbers), *numbers]


class Question(unittest.TestCase):
    def test_answers_how_many_atoms(self):
        tables = [table(2), table(1)]
        self.assertEqual(told_last(*tables, question(atom(0, "v0", 5))), [1])
        self.assertEqual(told_last(*tables, question(atom(0, "v0", "v1"), atom(1, "v1"))), [2])
        self.assertEqual(told_last(*tables, question(atom(1, 3), atom(0, 1, 2), atom(1, "v4"))), [3])

    def test_one_to_five_atoms(self):
        for number in range(1, 6):
            with self.subTest(number=number):
                self.assertEqual(told_last(table(1), question(*[atom(0, "v0")] * number)), [number])
                self.assertEqual(told_last(table(0), question(*[atom(0)] * number)), [number])

    def test_five_atoms_of_four_columns(self):
        wide = atom(0, "v0", "v9", LEAST, GREATEST)
        self.assertEqual(told_last(table(4), question(*[wide] * 5)), [5])

    def test_six_atoms(self):
        self.assertEqual(told_last(table(1), question(*[atom(0, "v0")] * 6)), [-1])
        self.assertEqual(told_last(table(0), question(*[atom(0)] * 6)), [-1])
        self.assertEqual(told_last(table(0), question(*[atom(0)] * 100)), [-1])

    def test_five_atoms_and_a_beginning_of_a_sixth(self):
        self.assertEqual(told_last(table(1), listed(*[0, 1, 0] * 5, 0)), [-1])
        self.assertEqual(told_last(table(1), listed(*[0, 1, 0] * 5, 0, 1)), [-1])

    def test_every_table_may_stand_in_it(self):
        tables = [table(0)] * 6
        self.assertEqual(told_last(*tables, question(atom(5), atom(0), atom(5))), [3])

    def test_values_and_variables_at_their_edges(self):
        for term in (LEAST, GREATEST, 0, 10, -1, "v0", "v9"):
            with self.subTest(term=term):
                self.assertEqual(told_last(table(1), question(atom(0, term))), [1])

    def test_terms_that_are_none(self):
        for kind, number in ((0, LEAST - 1), (0, GREATEST + 1), (0, -2000000000), (0, 2000000000), (1, -1), (1, 10),
                             (1, 2000000000), (2, 0), (-1, 0), (2000000000, 5)):
            with self.subTest(kind=kind, number=number):
                self.assertEqual(told_last(table(1), listed(0, kind, number)), [-1])
                self.assertEqual(told_last(table(2), listed(0, 1, 0, kind, number)), [-1])
                self.assertEqual(told_last(table(1), listed(0, 1, 0, 0, kind, number)), [-1])

    def test_no_such_table(self):
        for number in (-1, 2, 2000000000, -2000000000):
            with self.subTest(number=number):
                self.assertEqual(told_last(table(0), table(0), listed(number)), [-1])
                self.assertEqual(told_last(table(0), table(0), listed(0, number)), [-1])
        self.assertEqual(told(listed(0)), [[-1]])

    def test_ends_within_an_atom(self):
        whole = [0, 1, 0, 0, 7, 0, 1, 1, 0, 8]
        for length in range(len(whole) + 1):
            with self.subTest(length=length):
                expected = [length // 5] if length % 5 == 0 else [-1]
                self.assertEqual(told_last(table(2), listed(*whole[:length])), expected)

    def test_table_that_comes_behind_is_not_there_yet(self):
        calls = [table(1), question(atom(1, "v0")), table(1), question(atom(1, "v0"))]
        self.assertEqual(told(*calls), [[0], [-1], [1], [1]])

    def test_the_next_one_takes_its_place(self):
        calls = [table(1), row(0, 4), question(atom(0, "v0"), atom(0, "v1")), question(atom(0, "v0")), tree, left(1)]
        self.assertEqual(told(*calls)[2:], [[2], [1], [1, 0, 1, 0], [-1]])

    def test_refused_changes_nothing(self):
        wrong = [listed(1), listed(0), listed(0, 1), listed(0, 2, 0), listed(0, 1, 10), listed(0, 0, GREATEST + 1),
                 question(*[atom(0, "v0")] * 6), listed(0, 1, 0, 7)]
        start = [table(1), row(0, 4), question(atom(0, "v0"), atom(0, "v1"))]
        for call in wrong:
            with self.subTest(call=call):
                self.assertEqual(told(*start, call, tree, left(1))[3:], [[-1], [1, 1, 0, 1, 1, 1], [1, 4]])
                self.assertEqual(told(table(1), call, tree), [[0], [-1], [-5]])


class NoQuestion(unittest.TestCase):
    def test_at_the_beginning(self):
        for name, call in NO_QUESTION_CALLS.items():
            with self.subTest(name=name):
                self.assertEqual(told(call), [[-5]])
                self.assertEqual(told(table(1), row(0, 1), call, table(1)), [[0], [1], [-5], [1]])

    def test_one_behind_another(self):
        self.assertEqual(told(*NO_QUESTION_CALLS.values(), table(2)), [[-5]] * len(NO_QUESTION_CALLS) + [[0]])

    def test_question_with_no_atoms_is_none(self):
        for name, call in NO_QUESTION_CALLS.items():
            with self.subTest(name=name):
                self.assertEqual(told(question(), call), [[0], [-5]])
                calls = [table(1), question(atom(0, "v0")), question(), call]
                self.assertEqual(told(*calls), [[0], [1], [0], [-5]])

    def test_behind_begin(self):
        for name, call in NO_QUESTION_CALLS.items():
            with self.subTest(name=name):
                self.assertEqual(told_last(table(0), question(atom(0)), begin, call), [-5])


if __name__ == "__main__":
    unittest.main()
