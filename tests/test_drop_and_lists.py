"""drop and lists: the numbers of the lists behind a drop, and what there is to drop."""

import unittest

from tests.helper import add, becomes, drop, last, lists, run


class Drop(unittest.TestCase):
    def test_a_new_object_holds_no_lists(self):
        self.assertEqual(run(lists(), drop(0), lists(), becomes("a")), [[0], [-1], [0], [0]])

    def test_those_with_higher_numbers_have_one_less(self):
        added = [add("", "a"), add("", "b"), add("", "c"), add("", "d")]
        self.assertEqual(
            run(*added, drop(1), lists(), *[becomes(name) for name in "abcd"])[4:],
            [[0], [3], [2, 0, 1], [0], [2, 1, 1], [2, 2, 1]])

    def test_first_and_last(self):
        added = [add("", "a"), add("", "b"), add("", "c")]
        self.assertEqual(run(*added, drop(0), becomes("a"), becomes("b"), becomes("c"))[3:],
                         [[0], [0], [2, 0, 1], [2, 1, 1]])
        self.assertEqual(run(*added, drop(2), becomes("a"), becomes("b"), becomes("c"))[3:],
                         [[0], [2, 0, 1], [2, 1, 1], [0]])

    def test_no_such_list(self):
        for number in (2, 3, 16, 4294967295):
            with self.subTest(number=number):
                self.assertEqual(run(add("", "a"), add("", "b"), drop(number), lists(), becomes("b")),
                                 [[0], [1], [-1], [2], [2, 1, 1]])

    def test_a_list_is_gone_once(self):
        self.assertEqual(run(add("", "a"), drop(0), drop(0), lists(), becomes("a")), [[0], [0], [-1], [0], [0]])

    def test_the_new_number_behind_a_drop(self):
        self.assertEqual(run(add("", "a"), add("", "!a"), drop(0), add("", "a"), becomes("a"), drop(1), becomes("a")),
                         [[0], [1], [0], [1], [2, 1, 1], [0], [1, 0, 1]])

    def test_what_a_dropped_list_said_is_said_no_more(self):
        self.assertEqual(run(add("", "a"), add("", "!a"), becomes("a"), drop(1), becomes("a"), drop(0), becomes("a")),
                         [[0], [1], [1, 1, 1], [0], [2, 0, 1], [0], [0]])


class Lists(unittest.TestCase):
    def test_how_many(self):
        self.assertEqual(run(lists(), add("", ""), lists(), add("a", "b"), lists(), drop(0), lists()),
                         [[0], [0], [1], [1], [2], [0], [1]])

    def test_sixteen(self):
        self.assertEqual(last(*[add("", "") for time in range(16)], lists()), [16])


if __name__ == "__main__":
    unittest.main()
