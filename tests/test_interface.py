"""passpatterns.lists.answers: how calls and answers stand in their lists, and that nothing is changed or kept."""

import unittest

from passpatterns.lists import answers


class Form(unittest.TestCase):
    def test_each_call_by_itself(self):
        self.assertEqual(answers([2]), [1, 0])
        self.assertEqual(answers([0, 0, 0]), [1, 0])
        self.assertEqual(answers([0, 1, 97, 2, 98, 10]), [1, 0])
        self.assertEqual(answers([0, 1, 47, 0]), [1, -1])
        self.assertEqual(answers([0, 0, 513] + [97] * 513), [1, -2])
        self.assertEqual(answers([0, 0, 3, 97, 10, 91]), [2, -3, 2])
        self.assertEqual(answers([0, 0, 129] + [97, 10] * 64 + [97]), [1, -4])
        self.assertEqual(answers([1, 0]), [1, -1])
        self.assertEqual(answers([3, 0, 1, 97]), [1, 0])
        self.assertEqual(answers([3, 0, 0]), [1, -1])
        self.assertEqual(answers([4, 0, 1]), [1, -1])
        self.assertEqual(answers([4, 4294967295, 4294967295]), [1, -1])
        self.assertEqual(answers([5, 0, 1, 97, 1, 97]), [1, 1])
        self.assertEqual(answers([5, 0, 2, 97, 47, 1, 97]), [1, 0])
        self.assertEqual(answers([5, 0, 0, 1, 97]), [1, -1])
        self.assertEqual(answers([5, 0, 1, 97, 0]), [1, -2])
        self.assertEqual(answers([6, 0]), [1, -1])
        self.assertEqual(answers([6, 1, 46]), [1, 0])
        self.assertEqual(answers([6, 1, 42]), [3, 1, 1, 1])
        self.assertEqual(answers([6, 7, 97, 47, 42, 10, 42, 98, 99]), [6, 1, 4, 97, 47, 98, 99])

    def test_several_calls_in_one_list(self):
        calls = [2, 0, 0, 4, 97, 10, 33, 98, 3, 0, 1, 97, 3, 4294967295, 1, 98, 3, 0, 1, 99, 0, 0, 1, 33, 2, 1, 0, 2]
        self.assertEqual(answers(calls), [1, 0, 1, 0, 3, 2, 0, 1, 3, 1, 0, 2, 1, 0, 2, -3, 1, 1, 1, 1, 0, 1, 0])

    def test_rows_that_look_like_calls(self):
        self.assertEqual(answers([0, 2, 1, 2, 3, 2, 2, 2, 2, 3, 0, 5, 1, 2, 47, 2, 2]), [1, 0, 1, 1, 1, 0])
        self.assertEqual(answers([5, 2, 2, 6, 2, 3, 6, 2, 4, 6, 3, 5, 4, 6, 4, 5, 6, 2]),
                         [1, 0, 5, 1, 3, 5, 4, 6, 1, -1, 1, 0])

    def test_400_calls(self):
        self.assertEqual(answers([2] * 400), [1, 0] * 400)
        self.assertEqual(answers([0, 0, 0, 1, 0] * 200), [1, 0] * 400)
        self.assertEqual(answers([0, 0, 1, 97] + [4, 0, 1] * 399), [1, 0] + [1, 1] * 399)
        self.assertEqual(answers([6, 1, 97] * 400), [3, 1, 1, 97] * 400)
        self.assertEqual(answers([5, 0, 1, 42, 1, 97] * 375), [1, 1] * 375)

    def test_rows_of_30000_numbers(self):
        self.assertEqual(answers([0, 30000] + [97] * 30000 + [0, 2]), [1, -1, 1, 0])
        self.assertEqual(answers([0, 0, 30000] + [10] * 30000 + [2]), [1, -2, 1, 0])
        self.assertEqual(answers([3, 1, 30000] + [97, 47] * 15000 + [2]), [1, -1, 1, 0])
        self.assertEqual(answers([5, 1, 30000] + [97, 47] * 15000 + [1, 97, 2]), [1, -1, 1, 0])
        self.assertEqual(answers([5, 1, 1, 97, 30000] + [97, 47] * 15000 + [2]), [1, -2, 1, 0])
        self.assertEqual(answers([6, 30000] + [97, 10] * 15000 + [2]), [1, -1, 1, 0])

    def test_whole_numbers_in_a_list(self):
        given = answers([2, 0, 0, 1, 97, 3, 0, 1, 97, 3, 0, 1, 98, 4, 0, 1, 1, 9, 1, 0, 4, 0, 1,
                         5, 0, 1, 97, 1, 97, 5, 0, 1, 97, 1, 98, 6, 1, 97, 6, 1, 42, 6, 1, 46, 6, 0])
        self.assertIs(type(given), list)
        self.assertEqual([type(number) for number in given], [int] * len(given))


CALLS = [0, 0, 5, 97, 10, 33, 98, 47, 0, 1, 97, 1, 91, 0, 1, 97, 1, 42, 3, 1, 3, 97, 47, 98, 3, 1, 1, 98, 4, 0, 2,
         5, 1, 4, 33, 42, 98, 47, 2, 97, 98, 6, 5, 42, 98, 47, 10, 63, 6, 1, 33, 1, 0, 3, 0, 1, 97, 2]


class NothingKept(unittest.TestCase):
    def test_the_list_handed_in_is_as_it_was(self):
        calls = list(CALLS)
        given = answers(calls)
        self.assertEqual(calls, CALLS)
        given.append(7)
        given[0] = 9
        self.assertEqual(calls, CALLS)

    def test_two_runs_answer_alike(self):
        first = answers(CALLS)
        self.assertEqual(first, [1, 0, 2, -3, 1, 1, 1, 3, 2, 0, 1, 3, 1, 0, 2, 1, 7, 1, 1, 3, 1, 1, 98, 1, -1,
                                 1, 0, 1, 0, 1, 1])
        self.assertEqual(answers(CALLS), first)
        answers([0, 0, 1, 42] * 16)
        self.assertEqual(answers(CALLS), first)
        self.assertEqual(answers([2]), [1, 0])

    def test_a_changed_answer_does_not_change_the_next(self):
        first = answers(CALLS)
        first.clear()
        self.assertEqual(answers(CALLS)[:2], [1, 0])


if __name__ == "__main__":
    unittest.main()
