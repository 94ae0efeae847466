"""becomes: which line counts most, what is dropped and kept, and by which line (promises 1, 2 and 3)."""

import unittest

from tests.helper import add, becomes, drop, last, run


class Fates(unittest.TestCase):
    def test_dropped_kept_by_a_line_and_by_none(self):
        self.assertEqual(run(add("", "*.o\n!x.o"), becomes("a.o"), becomes("x.o"), becomes("a.c")),
                         [[0], [2, 0, 1], [1, 0, 2], [0]])

    def test_without_lists_all_is_kept(self):
        self.assertEqual(run(becomes("a"), becomes("a/b", 1)), [[0], [0]])

    def test_what_is_no_path(self):
        for path in ("", "/", "/a", "a/", "a//b", ".", "..", "a/.", "../a", "a/../b", "\x00", "a/b\x00", "a" * 257,
                     "a" * 30000):
            with self.subTest(path=path[:9]):
                self.assertEqual(run(add("", "**"), becomes(path), becomes(path, 1)), [[0], [-1], [-1]])

    def test_paths_of_256_bytes(self):
        self.assertEqual(last(add("", "**"), becomes("a" * 256)), [2, 0, 1])
        self.assertEqual(last(add("", "!**"), becomes("a/" * 127 + "bc")), [1, 0, 1])

    def test_lines_are_numbered_with_those_that_say_nothing(self):
        self.assertEqual(last(add("", "# first\n\na\n#\n"), becomes("a")), [2, 0, 3])


class CountsMost(unittest.TestCase):
    def test_the_last_line_of_one_list(self):
        self.assertEqual(last(add("", "a\n!a\na"), becomes("a")), [2, 0, 3])
        self.assertEqual(last(add("", "a\na\n!a"), becomes("a")), [1, 0, 3])
        self.assertEqual(last(add("", "a\n!a\nb"), becomes("a")), [1, 0, 2])
        self.assertEqual(last(add("", "a\n!*\n*/b"), becomes("a")), [1, 0, 2])

    def test_the_list_added_last_of_one_directory(self):
        self.assertEqual(last(add("", "a"), add("", "!a"), becomes("a")), [1, 1, 1])
        self.assertEqual(last(add("", "!a\n!a"), add("", "a"), becomes("a")), [2, 1, 1])
        self.assertEqual(last(add("d", "a"), add("d", "!a"), add("", "a"), becomes("d/a")), [1, 1, 1])

    def test_a_deeper_list_against_one_at_the_root(self):
        for first, second in ((("", "a"), ("d", "!a")), (("d", "!a"), ("", "a"))):
            number = 1 if second[0] == "d" else 0
            self.assertEqual(last(add(*first), add(*second), becomes("d/a")), [1, number, 1])
        self.assertEqual(last(add("", "!a"), add("d", "a"), becomes("d/a")), [2, 1, 1])
        self.assertEqual(last(add("d", "a"), add("", "!a"), becomes("d/a")), [2, 0, 1])

    def test_deeper_goes_by_parts_of_the_directories_above(self):
        calls = [add("a/b/c", "!x"), add("a/b", "x"), add("a", "!x"), add("", "x")]
        paths = [becomes("a/b/c/x"), becomes("a/b/x"), becomes("a/x"), becomes("x"), becomes("a/b/c/d/x")]
        self.assertEqual(run(*calls, *paths)[4:], [[1, 0, 1], [2, 1, 1], [1, 2, 1], [2, 3, 1], [1, 0, 1]])

    def test_a_list_that_does_not_match_does_not_count(self):
        self.assertEqual(last(add("", "a"), add("d", "!b"), add("", "!c"), becomes("d/a")), [2, 0, 1])

    def test_a_long_directory_elsewhere_does_not_count(self):
        self.assertEqual(last(add("d", "a"), add("ddddd", "!a"), add("d/e/f", "!a"), becomes("d/a")), [2, 0, 1])

    def test_keeping_lines_count_as_dropping_ones_do(self):
        self.assertEqual(last(add("", "!a"), becomes("a")), [1, 0, 1])
        self.assertEqual(last(add("", "!a"), add("d", "!*"), becomes("d/a")), [1, 1, 1])


class ListsDirectories(unittest.TestCase):
    def test_patterns_hold_from_the_list_s_directory_on(self):
        self.assertEqual(run(add("d", "/a"), becomes("d/a"), becomes("a"), becomes("d/e/a")), [[0], [2, 0, 1], [0], [0]])
        self.assertEqual(run(add("d/e", "a/b"), becomes("d/e/a/b"), becomes("a/b"), becomes("d/a/b")),
                         [[0], [2, 0, 1], [0], [0]])
        self.assertEqual(run(add("d", "a"), becomes("d/a"), becomes("d/e/a"), becomes("a"), becomes("e/a")),
                         [[0], [2, 0, 1], [2, 0, 1], [0], [0]])

    def test_its_own_directory_is_not_matched(self):
        for pattern in ("d", "*", "**", "/d", "/**", "**/d", "!**"):
            with self.subTest(pattern=pattern):
                self.assertEqual(run(add("d", pattern), becomes("d", 1), becomes("d")), [[0], [0], [0]])
                self.assertEqual(run(add("e/d", pattern), becomes("e/d", 1), becomes("e", 1)), [[0], [0], [0]])

    def test_directories_whose_names_begin_alike(self):
        self.assertEqual(run(add("d", "*"), becomes("dd"), becomes("dd/a"), becomes("d.a"), becomes("d0/a"), becomes("e/d/a")),
                         [[0]] + [[0]] * 5)
        self.assertEqual(run(add("d/ee", "*"), becomes("d/e/a"), becomes("d/eee/a"), becomes("d/ee/a")),
                         [[0], [0], [0], [2, 0, 1]])

    def test_a_directory_that_looks_like_a_pattern(self):
        self.assertEqual(run(add("*", "a"), becomes("d/a"), becomes("*/a")), [[0], [0], [2, 0, 1]])

    def test_a_directory_of_256_bytes_has_nothing_below(self):
        self.assertEqual(run(add("d" * 256, "**"), becomes("d" * 256, 1)), [[0], [0]])
        self.assertEqual(run(add("d" * 254, "**"), becomes("d" * 254 + "/a")), [[0], [2, 0, 1]])


class DirectoriesAbove(unittest.TestCase):
    def test_what_is_in_a_dropped_directory_is_dropped_by_its_line(self):
        self.assertEqual(run(add("", "d"), becomes("d", 1), becomes("d/a"), becomes("d/e/f", 1)),
                         [[0], [2, 0, 1], [2, 0, 1], [2, 0, 1]])

    def test_whatever_lines_say_of_it(self):
        calls = [add("", "d\n!d/a\n!a"), add("d", "!a\n!**"), add("d/e", "!*")]
        self.assertEqual(run(*calls, becomes("d/a"), becomes("d/e/f"), becomes("d/e", 1))[3:],
                         [[2, 0, 1], [2, 0, 1], [2, 0, 1]])

    def test_the_first_from_the_root_on(self):
        calls = [add("", "e\nd\n**/a"), add("d/e", "a")]
        self.assertEqual(run(*calls, becomes("d/e/a"), becomes("e/d/a"), becomes("x/a/e/d"), becomes("x/e/d"))[2:],
                         [[2, 0, 2], [2, 0, 1], [2, 0, 3], [2, 0, 1]])

    def test_a_directory_kept_again_is_not_dropped(self):
        calls = [add("", "*\n!d\n!d/a")]
        self.assertEqual(run(*calls, becomes("d/a"), becomes("d/b"), becomes("d", 1), becomes("e/a"))[1:],
                         [[1, 0, 3], [2, 0, 1], [1, 0, 2], [2, 0, 1]])

    def test_what_keeps_a_directory_does_not_keep_what_is_in_it(self):
        self.assertEqual(run(add("", "!d"), becomes("d/a"), becomes("d", 1)), [[0], [0], [1, 0, 1]])

    def test_a_line_for_directories_drops_what_is_in_them(self):
        self.assertEqual(run(add("", "d/"), becomes("d/a"), becomes("d"), becomes("d", 1), becomes("e/d/a"), becomes("e/d")),
                         [[0], [2, 0, 1], [0], [2, 0, 1], [2, 0, 1], [0]])

    def test_a_line_for_directories_counts_for_directories_alone(self):
        calls = [add("", "a\n!a/")]
        self.assertEqual(run(*calls, becomes("a"), becomes("a", 7), becomes("a/b"), becomes("a/a"), becomes("a/a", 1))[1:],
                         [[2, 0, 1], [1, 0, 2], [0], [2, 0, 1], [1, 0, 2]])

    def test_all_below_a_directory_but_not_itself(self):
        self.assertEqual(run(add("", "d/**\n!d/e\n!d/e/f"), becomes("d", 1), becomes("d/a/b"), becomes("d/e"), becomes("d/e/f"),
                             becomes("d/e/g")),
                         [[0], [0], [2, 0, 1], [1, 0, 2], [1, 0, 3], [2, 0, 1]])

    def test_a_list_below_keeps_a_directory_that_one_above_drops(self):
        calls = [add("", "e"), add("d", "!e/")]
        self.assertEqual(run(*calls, becomes("d/e", 1), becomes("d/e"), becomes("d/e/a"), becomes("e/a"))[2:],
                         [[1, 1, 1], [2, 0, 1], [0], [2, 0, 1]])

    def test_as_deep_as_a_path_can_be(self):
        path = "a/" * 127 + "b"
        self.assertEqual(last(add("", "b"), becomes(path)), [2, 0, 1])
        self.assertEqual(last(add("", "/a/a/a\nb"), becomes(path)), [2, 0, 1])
        self.assertEqual(last(add("a/" * 126 + "a", "*"), add("", "!b"), becomes(path)), [2, 0, 1])


class OtherLists(unittest.TestCase):
    def test_a_list_that_matches_nothing_there_changes_nothing(self):
        first = [add("", "*.o\n!keep.o\nbuild/"), add("src", "!x.o\n/gen")]
        paths = ["a.o", "keep.o", "build/a", "src/x.o", "src/gen/x.o", "src/a.c", "a.c"]
        asked = [becomes(path) for path in paths]
        alone = run(*first, *asked)[2:]
        for directory, text in (("", "zz"), ("src", "!zz\nzz/"), ("other", "**"), ("", "#*"), ("src/gen/deep", "!**"),
                                ("", ""), ("", "a"), ("sr", "*"), ("", "[!\x01-\xff]")):
            with self.subTest(directory=directory, text=text):
                self.assertEqual(run(*first, add(directory, text), *asked)[3:], alone)
                self.assertEqual(run(*first, add(directory, text), drop(2), *asked)[4:], alone)

    def test_added_before_it_changes_the_numbers_alone(self):
        self.assertEqual(run(add("", "zz"), add("", "a"), becomes("a"), becomes("b"))[2:], [[2, 1, 1], [0]])


if __name__ == "__main__":
    unittest.main()
