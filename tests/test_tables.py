"""Promise 1: begin, table, row."""

import unittest

from tests.helper import GREATEST, LEAST, atom, begin, left, question, row, table, told, told_last, tree


def ten_rows(number):
    return [row(number, value) for value in range(10)]


def whole_table(number):
    """What the table holds, told by a question of it alone (one column)."""
    return [question(atom(number, "v0")), left(0)]


class Begin(unittest.TestCase):
    def test_answers_0(self):
        self.assertEqual(told(begin), [[0]])
        self.assertEqual(told(begin, begin), [[0], [0]])

    def test_in_the_middle_no_tables_are_left(self):
        self.assertEqual(told(table(1), table(2), begin, table(3)), [[0], [1], [0], [0]])
        self.assertEqual(told(table(1), begin, row(0, 1)), [[0], [0], [-1]])
        self.assertEqual(told(table(1), begin, question(atom(0, 1))), [[0], [0], [-1]])

    def test_in_the_middle_no_question_is_left(self):
        calls = [table(1), row(0, 1), question(atom(0, "v0")), begin, tree, left(0)]
        self.assertEqual(told(*calls), [[0], [1], [1], [0], [-5], [-5]])
        self.assertEqual(told_last(*calls[:4], table(1), tree), [-5])

    def test_in_the_middle_no_rows_are_left(self):
        self.assertEqual(told(table(1), row(0, 1), begin, table(1), row(0, 1)), [[0], [1], [0], [0], [1]])

    def test_six_tables_again_behind_it(self):
        calls = [table(1)] * 6 + [begin] + [table(1)] * 7
        self.assertEqual(told(*calls), [[0], [1], [2], [3], [4], [5], [0], [0], [1], [2], [3], [4], [5], [-6]])


class Tables(unittest.TestCase):
    def test_answers_its_number(self):
        self.assertEqual(told(table(0), table(4), table(2), table(2)), [[0], [1], [2], [3]])

    def test_six_at_most(self):
        self.assertEqual(told(*[table(2)] * 8), [[0], [1], [2], [3], [4], [5], [-6], [-6]])

    def test_columns_that_are_not_0_to_4(self):
        for columns in (-1, 5, -2000000000, 2000000000):
            with self.subTest(columns=columns):
                self.assertEqual(told(table(columns)), [[-1]])

    def test_refused_changes_nothing(self):
        self.assertEqual(told(table(5), table(1), table(-1), table(1), row(2)), [[-1], [0], [-1], [1], [-1]])

    def test_seventh_is_not_there(self):
        self.assertEqual(told(*[table(0)] * 7, row(6), row(5))[-2:], [[-1], [1]])
        self.assertEqual(told_last(*[table(0)] * 7, question(atom(6))), [-1])

    def test_wrong_columns_count_ahead_of_six_tables(self):
        self.assertEqual(told(*[table(2)] * 6, table(5), table(-1), table(4))[6:], [[-1], [-1], [-6]])


class Rows(unittest.TestCase):
    def test_new_and_there(self):
        calls = [table(2), row(0, 1, 2), row(0, 1, 2), row(0, 2, 1), row(0, 1, 1)]
        self.assertEqual(told(*calls), [[0], [1], [0], [1], [1]])

    def test_each_table_has_its_own(self):
        calls = [table(1), table(1), row(0, 3), row(1, 3), row(1, 3)]
        self.assertEqual(told(*calls), [[0], [1], [1], [1], [0]])

    def test_no_columns(self):
        self.assertEqual(told(table(0), row(0), row(0)), [[0], [1], [0]])

    def test_four_columns(self):
        calls = [table(4), row(0, 1, 2, 3, 4), row(0, 1, 2, 3, 5), row(0, 1, 2, 3, 4)]
        self.assertEqual(told(*calls), [[0], [1], [1], [0]])

    def test_least_and_greatest_value(self):
        calls = [table(2), row(0, LEAST, GREATEST), row(0, LEAST, GREATEST), row(0, GREATEST, LEAST)]
        self.assertEqual(told(*calls), [[0], [1], [0], [1]])

    def test_no_value(self):
        for number in (LEAST - 1, GREATEST + 1, -2000000000, 2000000000):
            with self.subTest(number=number):
                self.assertEqual(told(table(2), row(0, 0, number), row(0, number, 0)), [[0], [-1], [-1]])

    def test_no_such_table(self):
        for number in (-1, 2, -2, 2000000000, -2000000000):
            with self.subTest(number=number):
                self.assertEqual(told(table(1), table(1), row(number, 7)), [[0], [1], [-1]])
        self.assertEqual(told(row(0), row(0, 1)), [[-1], [-1]])

    def test_another_number_of_columns(self):
        for columns in range(5):
            for length in [*range(7), 100]:
                with self.subTest(columns=columns, length=length):
                    expected = [1] if length == columns else [-1]
                    self.assertEqual(told(table(columns), row(0, *[0] * length)), [[0], expected])

    def test_ten_at_most(self):
        self.assertEqual(told(table(1), *ten_rows(0)), [[0]] + [[1]] * 10)
        self.assertEqual(told(table(1), *ten_rows(0), row(0, 10), row(0, 11))[-2:], [[-6], [-6]])

    def test_there_already_where_there_are_ten(self):
        calls = [table(1), *ten_rows(0), row(0, 0), row(0, 9), row(0, 10)]
        self.assertEqual(told(*calls)[-3:], [[0], [0], [-6]])

    def test_ten_in_one_leaves_room_in_another(self):
        self.assertEqual(told_last(table(1), table(1), *ten_rows(0), row(1, 10)), [1])

    def test_there_already_does_not_count_twice(self):
        calls = [table(1)] + [row(0, 0)] * 12 + ten_rows(0) + [row(0, 10)]
        self.assertEqual(told(*calls), [[0], [1]] + [[0]] * 12 + [[1]] * 9 + [[-6]])

    def test_wrong_counts_ahead_of_ten_rows(self):
        calls = [table(1), *ten_rows(0), row(0), row(0, 1, 2), row(0, GREATEST + 1), row(1, 10)]
        self.assertEqual(told(*calls)[-4:], [[-1], [-1], [-1], [-1]])

    def test_refused_changes_nothing(self):
        wrong = [row(0), row(0, 1, 2), row(0, GREATEST + 1), row(1, 1), row(-1, 1)]
        self.assertEqual(told_last(table(1), *wrong, *whole_table(0)), [0])
        self.assertEqual(told_last(table(1), *wrong, row(0, 1)), [1])
        full = [table(1), *ten_rows(0)]
        before = told_last(*full, *whole_table(0))
        self.assertEqual(before, [10, 0, 1, 2, 3, 4, 5, 6, 7, 8, 9])
        self.assertEqual(told_last(*full, row(0, -1), *wrong, *whole_table(0)), before)


if __name__ == "__main__":
    unittest.main()
