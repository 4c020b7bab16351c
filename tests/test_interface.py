"""The interface: how calls and answers lie in one list, and what is kept (nothing)."""

import unittest

from joinplans.planner import answers
from tests.helper import answered, atom, begin, cost, count, joined, left, order, plan, question, row, table, tree

SESSION = joined(
    table(2), table(1), row(0, 2, 1), row(0, 1, 2), row(1, 2), row(1, 1000000001),
    question(atom(0, "v0", "v1"), atom(1, "v1")), tree, left(0), left(2), count, answered(1, 0), answered(2), order,
    cost(1, 0), cost(0), plan, begin, left(0), plan, table(0), row(0), question(atom(0)), left(0), answered(), order,
)
SESSION_TOLD = [
    1, 0, 1, 1, 1, 1, 1, 1, 1, 1, 1, -1,
    1, 2, 6, 1, 1, 0, 1, 1, 1, 3, 1, 1, 2, 1, -1, 1, 1, 3, 1, 2, 1, 1, -1, 3, 1, 0, 1,
    1, 1, 1, -1, 4, 1, 0, 1, -1, 1, 0, 1, -5, 1, -5, 1, 0, 1, 1, 1, 1, 1, 1, 1, 1, 2, 0, 0,
]


class Unchanging(list):
    """A list that fails when something changes it."""

    def refuse(self, *args, **kwargs):
        raise AssertionError("the list that is handed in is changed")

    __setitem__ = __delitem__ = __iadd__ = __imul__ = refuse
    append = extend = insert = pop = remove = clear = sort = reverse = refuse


class Interface(unittest.TestCase):
    def test_each_call_alone(self):
        self.assertEqual(answers([0]), [1, 0])
        self.assertEqual(answers([1, 3]), [1, 0])
        self.assertEqual(answers([2, 0, 0]), [1, -1])
        self.assertEqual(answers([3, 0]), [1, 0])
        self.assertEqual(answers([4]), [1, -5])
        self.assertEqual(answers([5, 0]), [1, -5])
        self.assertEqual(answers([6]), [1, -5])
        self.assertEqual(answers([7, 1, 0]), [1, -5])
        self.assertEqual(answers([8]), [1, -5])
        self.assertEqual(answers([9, 1, 0]), [1, -5])
        self.assertEqual(answers([10]), [1, -5])

    def test_several_behind_one_another(self):
        self.assertEqual(answers(SESSION), SESSION_TOLD)

    def test_lists_of_a_hundred_numbers_are_read_whole(self):
        calls = joined(table(1), row(0, *[0] * 100), question([0] * 100), table(1))
        self.assertEqual(answers(calls), [1, 0, 1, -1, 1, -1, 1, 1])
        for start in ([], [3, 3, 0, 1, 0]):
            calls = joined(table(1), start, answered(*[7] * 100), cost(*[8] * 100), table(1))
            self.assertEqual(answers(calls)[-2:], [1, 1])

    def test_sixty_calls(self):
        calls = joined(table(1), row(0, 5), question(atom(0, "v0")), *[left(0)] * 57)
        self.assertEqual(answers(calls), [1, 0, 1, 1, 1, 1] + [2, 1, 5] * 57)

    def test_what_is_handed_in_is_the_same_afterwards(self):
        calls = list(SESSION)
        answers(calls)
        self.assertEqual(calls, SESSION)

    def test_what_is_handed_in_is_not_changed_for_a_while_either(self):
        self.assertEqual(answers(Unchanging(SESSION)), SESSION_TOLD)

    def test_asking_twice_gives_the_same(self):
        self.assertEqual(answers(SESSION), answers(SESSION))

    def test_nothing_is_kept_from_one_time_to_the_next(self):
        for calls in (joined(*[table(1)] * 6), joined(table(1), row(0, 1), question(atom(0, "v0")))):
            answers(calls)
            self.assertEqual(answers([4]), [1, -5])
            self.assertEqual(answers([1, 1]), [1, 0])
            self.assertEqual(answers([2, 0, 1, 1]), [1, -1])

    def test_changing_what_is_given_back_changes_nothing(self):
        answers(SESSION).clear()
        self.assertEqual(answers(SESSION), SESSION_TOLD)

    def test_a_list_of_whole_numbers_is_given_back(self):
        given = answers(SESSION)
        self.assertIs(type(given), list)
        self.assertEqual({type(number) for number in given}, {int})


if __name__ == "__main__":
    unittest.main()
