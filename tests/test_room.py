"""Room (promise 7): 16 lists, 64 patterns, 2,048 bytes of texts and directories' paths."""

import unittest

from tests.helper import add, becomes, drop, last, lists, run


def patterns(many):
    return "\n".join(["a"] * many)


class Lists(unittest.TestCase):
    def test_16_and_17(self):
        given = run(*[add("", "") for time in range(17)], lists())
        self.assertEqual(given, [[number] for number in range(16)] + [[-4], [16]])

    def test_room_again_behind_a_drop(self):
        full = [add("", "") for time in range(16)]
        self.assertEqual(
            run(*full, add("", "x"), drop(3), lists(), add("", "x"), add("", "x"), becomes("x"))[16:],
            [[-4], [0], [15], [15], [-4], [2, 15, 1]])


class Patterns(unittest.TestCase):
    def test_64_and_65_in_one_list(self):
        self.assertEqual(last(add("", patterns(64))), [0])
        self.assertEqual(run(add("", patterns(65)), lists()), [[-4], [0]])

    def test_64_and_65_in_several_lists(self):
        self.assertEqual(
            run(add("", patterns(40)), add("d", patterns(23)), add("", patterns(2)), add("", "a"), add("", "a"), lists()),
            [[0], [1], [-4], [2], [-4], [3]])

    def test_lines_that_keep_count_too(self):
        self.assertEqual(last(add("", "\n".join(["!a"] * 65))), [-4])
        self.assertEqual(last(add("", "\n".join(["!a/"] * 64))), [0])

    def test_lines_that_say_nothing_do_not_count(self):
        self.assertEqual(run(add("", patterns(64)), add("", ""), add("", "#\n\n#a\n"), add("", "\n" * 512), lists()),
                         [[0], [1], [2], [3], [4]])
        self.assertEqual(last(add("", "\n#\n".join(["a"] * 64))), [0])

    def test_room_again_behind_a_drop(self):
        self.assertEqual(
            run(add("", patterns(60)), add("", patterns(4)), add("", "a"), drop(1), add("", patterns(5)),
                add("", patterns(4)), drop(0), add("", patterns(61)), add("", patterns(60)), lists()),
            [[0], [1], [-4], [0], [-4], [1], [0], [-4], [1], [2]])


class Bytes(unittest.TestCase):
    def test_2048_and_2049_in_texts(self):
        full = [add("", "#" * 512) for time in range(3)] + [add("", "#" * 511)]
        self.assertEqual(run(*full, add("", "##"), add("", "#"), add("", "#"), add("", ""), lists())[4:],
                         [[-4], [4], [-4], [5], [6]])

    def test_directories_paths_count_too(self):
        full = [add("d" * 256, "#" * 512), add("e" * 256, "#" * 512), add("f" * 256, "#" * 256)]
        self.assertEqual(run(*full, add("", "#"), lists()), [[0], [1], [2], [-4], [3]])
        self.assertEqual(run(*full, add("d", ""), add("", ""), lists()), [[0], [1], [2], [-4], [3], [4]])
        almost = [add("d" * 256, "#" * 512), add("e" * 256, "#" * 512), add("f" * 255, "#" * 256)]
        self.assertEqual(run(*almost, add("d", "#"), add("dd", ""), add("d", ""), add("", "#")),
                         [[0], [1], [2], [-4], [-4], [3], [-4]])

    def test_line_feeds_and_slashes_count(self):
        full = [add("", "\n" * 512) for time in range(3)] + [add("a/b/c", "\n" * 507)]
        self.assertEqual(run(*full, add("", "\n"), add("", ""))[3:], [[3], [-4], [4]])

    def test_one_directory_twice_counts_twice(self):
        full = [add("d" * 256, "") for time in range(8)]
        self.assertEqual(run(*full, add("d", ""), add("", ""))[8:], [[-4], [8]])

    def test_room_again_behind_a_drop(self):
        full = [add("", "#" * 512) for time in range(4)]
        self.assertEqual(
            run(*full, drop(0), add("", "#" * 512), add("", "#"), drop(2), add("dd", "#" * 511), add("dd", "#" * 510))[4:],
            [[0], [3], [-4], [0], [-4], [3]])


class Refusals(unittest.TestCase):
    def test_refused_lists_take_no_room(self):
        refused = [add("", "a\n" * 64 + "["), add("/", patterns(64)), add("", patterns(65)), add("", "a" * 513), drop(0)]
        given = run(*(refused * 5), add("", patterns(64)), lists())
        self.assertEqual(given[-2:], [[0], [1]])

    def test_many_lists_added_and_dropped(self):
        calls = []
        expected = []
        for time in range(40):
            calls += [add("d", patterns(64)), add("", "a"), drop(0)]
            expected += [[0], [-4], [0]]
        self.assertEqual(run(*calls, lists()), expected + [[0]])


if __name__ == "__main__":
    unittest.main()
