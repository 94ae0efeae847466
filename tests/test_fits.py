"""fits: whether a pattern alone matches an entry. (tests/test_patterns.py asks it of every kind of piece, too.)"""

import unittest

from tests.helper import add, becomes, drop, fits, last, lists, run
from tests.test_add import FAULTS, PATTERNS

# A pattern, a path that it makes, one that it doesn't.
PIECES = (
    ("a", "x/y/a", "x/y/b"),
    ("/a", "a", "x/a"),
    ("a/b", "a/b", "x/a/b"),
    ("**", "a/b/c", None),
    ("**/a/b", "x/y/a/b", "x/y/a/c/b"),
    ("a/**/b", "a/b", "a/xb"),
    ("a/**", "a/b/c", "a"),
    ("*", "a/b", None),
    ("/*", "ab", "a/b"),
    ("a*c", "abbc", "abbd"),
    ("a?c", "abc", "ac"),
    ("a\\*", "a*", "ab"),
    ("a\\bc", "abc", "a\\bc"),
    ("[ab]", "b", "c"),
    ("[a-c]", "b", "d"),
    ("[!a-c]", "d", "b"),
    ("[!!]", "a", "!"),
    ("[\\]\\-]", "-", "\\"),
    ("]", "]", "["),
    ("a]", "a]", "a"),
    ("\\#a", "#a", "a"),
    ("\\!a", "!a", "a"),
    ("\xff", "\xff", "\xfe"),
    (" ", " ", "a"),
)


class Answers(unittest.TestCase):
    def test_each_kind_of_piece(self):
        for pattern, made, not_made in PIECES:
            for is_directory in (0, 1):
                with self.subTest(pattern=pattern, is_directory=is_directory):
                    self.assertEqual(last(fits(pattern, made, is_directory)), [1])
                    if not_made is not None:
                        self.assertEqual(last(fits(pattern, not_made, is_directory)), [0])

    def test_a_bang_plays_no_part(self):
        for pattern, made, not_made in PIECES:
            with self.subTest(pattern=pattern):
                self.assertEqual(last(fits("!" + pattern, made)), [1])
                if not_made is not None:
                    self.assertEqual(last(fits("!" + pattern, not_made)), [0])
        self.assertEqual(run(fits("!!a", "!a"), fits("!!a", "a"), fits("!#a", "#a")), [[1], [0], [1]])

    def test_for_directories(self):
        for pattern in ("a/", "!a/", "/a/", "**/a/", "*/", "**/"):
            given = run(*[fits(pattern, "a", is_directory) for is_directory in (0, 1, 2, 47, 256, 4294967295)])
            with self.subTest(pattern=pattern):
                self.assertEqual(given, [[0], [1], [1], [1], [1], [1]])
        self.assertEqual(run(fits("a/", "b", 1), fits("a/", "a/b", 1), fits("a/b/", "a/b", 1), fits("a/b/", "a/b", 0)),
                         [[0], [0], [1], [0]])

    def test_a_directory_above_is_not_asked_for(self):
        self.assertEqual(run(fits("a", "a/b"), fits("a/", "a/b"), fits("/a", "a/b"), fits("a", "b/a")),
                         [[0], [0], [0], [1]])

    def test_whatever_lists_there_are(self):
        asked = [fits("*.o", "d/x.o"), fits("a", "b"), fits("a/", "a"), fits("a/", "a", 1), fits("[", "a"), fits("a", "/")]
        answered = [[1], [0], [0], [1], [-1], [-2]]
        added = [add("", "*\n!x.o\n"), add("d", "**"), add("", "!a"), add("a", "#")]
        self.assertEqual(run(*asked), answered)
        self.assertEqual(run(*added, *asked, drop(0), *asked), [[0], [1], [2], [3]] + answered + [[0]] + answered)

    def test_it_changes_nothing(self):
        given = run(add("", "a"), becomes("a"), becomes("b"), fits("!b", "b"), fits("[", "b"), fits("b", "/"), lists(),
                    becomes("a"), becomes("b"), fits("a", "a"), fits("b", "a"))
        self.assertEqual(given, [[0], [2, 0, 1], [0], [1], [-1], [-2], [1], [2, 0, 1], [0], [1], [0]])


class Refusals(unittest.TestCase):
    def test_a_line_at_fault(self):
        for line in FAULTS:
            with self.subTest(line=line):
                self.assertEqual(run(fits(line, "a"), fits(line, "/")), [[-1], [-1]])

    def test_what_is_not_at_fault(self):
        for line in PATTERNS:
            with self.subTest(line=line):
                self.assertIn(last(fits(line, "a", 1)), ([0], [1]))
                self.assertEqual(last(fits(line, "/", 1)), [-2])

    def test_a_line_that_says_nothing(self):
        for line in ("", "#", "#a", "##", "#!a"):
            with self.subTest(line=line):
                self.assertEqual(run(fits(line, "a"), fits(line, "#a")), [[-1], [-1]])

    def test_a_byte_10(self):
        for line in ("\n", "a\n", "\na", "a\nb", "[\n]", "\\\n", "#\na", "a\n#", "!a\n", "a/\n"):
            with self.subTest(line=line):
                self.assertEqual(run(fits(line, "a"), fits(line, "\n")), [[-1], [-1]])
        self.assertEqual(run(fits("?", "\n"), fits("[!a]", "a\n/\n"), fits("[\t-\r]", "\n")), [[1], [1], [1]])

    def test_128_bytes_and_129(self):
        self.assertEqual(run(fits("a" * 128, "a" * 128), fits("a" * 128, "a"), fits("*" * 128, "a")), [[1], [0], [1]])
        self.assertEqual(run(fits("a" * 129, "a" * 129), fits("*" * 129, "a"), fits("#" * 129, "a")), [[-1], [-1], [-1]])
        # What is taken off counts, too.
        self.assertEqual(run(fits("!" + "a" * 127, "a" * 127), fits("!" + "a" * 128, "a" * 128)), [[1], [-1]])
        self.assertEqual(run(fits("/" + "a" * 126 + "/", "a" * 126, 1), fits("/" + "a" * 127 + "/", "a" * 127, 1)),
                         [[1], [-1]])
        self.assertEqual(run(fits("\\a" * 64, "a" * 64), fits("\\a" * 64 + "a", "a" * 65)), [[1], [-1]])

    def test_what_is_no_path(self):
        for path in ("", "/", "/a", "a/", "a//b", ".", "..", "a/.", "./a", "a/../b", "\x00", "a\x00", "a" * 257,
                     "a/" * 128 + "a", "a" * 30000):
            with self.subTest(path=path):
                self.assertEqual(run(fits("**", path), fits("**", path, 1)), [[-2], [-2]])
        for path in ("a", "...", ".a", "a" * 256, "a/" * 127 + "aa", "\n", "\xff"):
            with self.subTest(path=path):
                self.assertEqual(last(fits("**", path)), [1])

    def test_the_pattern_goes_before_the_path(self):
        for line in ("[", "", "#", "a\n", "a" * 129):
            for path in ("", ".", "a//b", "a" * 257):
                self.assertEqual(last(fits(line, path)), [-1])


class Long(unittest.TestCase):
    def test_many_stars(self):
        self.assertEqual(run(fits("*a" * 64, "a" * 256), fits("*a" * 63 + "*b", "a" * 256)), [[1], [0]])
        self.assertEqual(run(fits("**/" * 42 + "b", "a/" * 127 + "b"), fits("**/" * 42 + "b", "a/" * 127 + "a")),
                         [[1], [0]])
        self.assertEqual(run(fits("**/a/" * 25 + "**", "a/" * 127 + "b"), fits("**/a/" * 25 + "b", "a/" * 127 + "a")),
                         [[1], [0]])


if __name__ == "__main__":
    unittest.main()
