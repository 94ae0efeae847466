"""least (promise 6): the least path that all patterns make, or that there is none."""

import random
import unittest

from tests.helper import add, becomes, fits, last, least, lists, row, run
from tests.reference import Pattern, is_path, least_by_trying, least_by_walking
from tests.test_add import FAULTS


class LeastCase(unittest.TestCase):
    def check(self, *lines_and_path):
        """The last is the path that is to be told, or None where there is none; the lines may stand the other way too."""
        lines = lines_and_path[:-1]
        path = lines_and_path[-1]
        told = [0] if path is None else [1, len(path)] + row(path)
        for order in (lines, lines[::-1]):
            with self.subTest(lines=order):
                self.assertEqual(last(least(*order)), told)


class OnePattern(LeastCase):
    def test_bytes_as_they_are(self):
        self.check("a", "a")
        self.check("/a", "a")
        self.check("abc", "abc")
        self.check("a/b", "a/b")
        self.check("/a/bc/d", "a/bc/d")
        self.check("\\*\\?", "*?")
        self.check("\\!a", "!a")
        self.check("\\#", "#")
        self.check("\xff", "\xff")
        self.check("]", "]")
        self.check("...", "...")
        self.check("a" * 24, "a" * 24)

    def test_the_lowest_byte(self):
        self.check("?", "\x01")
        self.check("a?c", "a\x01c")
        self.check("[b-d]", "b")
        self.check("[dbc]", "b")
        self.check("[!a]", "\x01")
        self.check("[!\x01-\x60]", "a")
        self.check("[\x00-\xff]", "\x01")
        self.check("[!\x01]", "\x02")
        self.check("[\xfe\xff]", "\xfe")

    def test_the_length_is_told_by_stars(self):
        self.check("*", "\x01")
        self.check("/*", "\x01")
        self.check("a*", "a")
        self.check("*a*", "a")
        self.check("a*b*c", "abc")
        self.check("*/*", "\x01/\x01")
        self.check("***", "\x01")
        self.check("*?*", "\x01")
        self.check("?*?", "\x01\x01")

    def test_the_length_is_told_by_many_parts(self):
        self.check("**", "\x01")
        self.check("/**", "\x01")
        self.check("**/**", "\x01")
        self.check("**/a", "a")
        self.check("a/**", "a/\x01")
        self.check("a/**/b", "a/b")
        self.check("**/a/**", "a/\x01")
        self.check("a/**/**", "a/\x01")
        self.check("**/*", "\x01")
        self.check("*/**", "\x01/\x01")
        self.check("*/**/*", "\x01/\x01")
        self.check("**/*/**/*b", "\x01/b")

    def test_a_slash_at_the_end_plays_no_part(self):
        self.check("a/", "a")
        self.check("/a/", "a")
        self.check("a/b/", "a/b")
        self.check("*/", "\x01")
        self.check("**/", "\x01")
        self.check("a/**/", "a/\x01")

    def test_no_path_at_all(self):
        for line in (".", "..", "/.", "/..", "./", "[.]", "[.][.]", ".[.]", "\\.", "a/.", "a/..", "./a", "../a", "a/./b",
                     "**/..", "../**", "\x00", "a\x00", "\\\x00", "[\x00]", "a/\x00", "[!\x01-\xff]", "[!\x00-\xff]",
                     "[!\x01-.0-\xff]", "a[!\x01-.0-\xff]", "*[\x00]*", "?/[.]/?"):
            with self.subTest(line=line):
                self.check(line, None)

    def test_no_byte_is_a_slash_but_the_one_between_parts(self):
        self.check("[.-0]", "0")
        self.check("a[.-0]", "a.")
        self.check("a[!\x01-.]", "a0")
        self.check("[!\x01-.]", "0")

    def test_parts_that_are_not_dots_alone(self):
        self.check(".*", ".\x01")
        self.check("..*", "..\x01")
        self.check("...*", "...")
        self.check("*.", "\x01.")
        self.check("*..", "\x01..")
        self.check("*.*", "\x01.")
        self.check(".?", ".\x01")
        self.check("..?", "..\x01")
        self.check("[.]*", ".\x01")
        self.check("[.]*[.]", ".\x01.")
        self.check("[.][.]*", "..\x01")
        self.check("[.][.][.]", "...")
        self.check("[.-0]*", "0")
        self.check(".*/.*", ".\x01/.\x01")
        self.check("a/.*", "a/.\x01")
        self.check(".[!\x01-\\-]", ".0")
        self.check("[.][.-0]", ".0")
        self.check("..[.-0]", "...")
        self.check("a/..*/b", "a/..\x01/b")


class TwoPatterns(LeastCase):
    def test_without_slashes(self):
        self.check("a*", "*b", "ab")
        self.check("*a*", "*b*", "ab")
        self.check("a", "a", "a")
        self.check("a?", "?b", "ab")
        self.check("[a-c]", "[b-d]", "b")
        self.check("[!a]", "[a-d]", "b")
        self.check("a*b", "*c*", "acb")
        self.check("ab*", "*bc", "abc")
        self.check("*", "abc", "abc")
        self.check("???", "*a", "\x01\x01a")
        self.check("?*", "a", "a")
        self.check("a*a", "*aa*a*", "aaa")
        self.check("*a?", "*b?", None)

    def test_none_in_common(self):
        self.check("a", "b", None)
        self.check("?", "??", None)
        self.check("/a", "a/b", None)
        self.check("/*", "a/b", None)
        self.check("/a*", "/*b/*", None)
        self.check("a*", "b*", None)
        self.check("a/**", "/b/**", None)
        self.check("*/*", "*/*/*", None)
        self.check("[a-c]", "[!\x01-d]", None)
        self.check("a/*", "**/b/c", None)
        self.check("/?", "**/??", None)
        self.check(".", "**", None)
        self.check("*", "..", None)
        self.check("[.a]", "[.b]", None)
        self.check("[.a][.b]", "[.c][.d]", None)
        self.check("a*", "\x00*", None)

    def test_with_slashes(self):
        self.check("/a", "a", "a")
        self.check("b", "a/b", "a/b")
        self.check("*/*", "a*", "\x01/a")
        self.check("/a*", "*/b", None)
        self.check("a*/b*", "*x/*y", "ax/by")
        self.check("/a*/b", "/*c/b", "ac/b")

    def test_with_many_parts(self):
        self.check("a/**", "**/b", "a/b")
        self.check("**/a", "a/**", "a/a")
        self.check("a", "**/b/**", "b/a")
        self.check("**/a/**", "**/b", "a/b")
        self.check("a/**/c", "*/b/*", "a/b/c")
        self.check("a/**/b", "*/*/*/*", "a/\x01/\x01/b")
        self.check("**/a/**/b", "**/c/**/d", None)
        self.check("**/a/**/b", "**/c/**/b", "a/c/b")
        self.check("**", "*/*", "\x01/\x01")
        self.check("?", "/a/**", "a/\x01")
        self.check("**/a/**", "**/b/**", "a/b/\x01")
        self.check("a/**", "a/**", "a/\x01")

    def test_with_both_kinds_of_stars(self):
        self.check("a*/**", "**/*b", "a/b")
        self.check("**/a*/**", "*b/**", "ab/\x01")
        self.check("/**/*a*", "*b*/*", "b/a")
        self.check("*a/**/b*", "a*/*/c*/**", "a/\x01/c/b")

    def test_the_first_by_bytes_among_the_fewest(self):
        # `a/cb/d` comes before `ac/b/d`, as a slash is below a `c`; but a `!` is below a slash.
        self.check("a*/*b/d", "**/*c*/**", "a/cb/d")
        self.check("a*/*b/d", "**/*\\!*/**", "a!/b/d")
        self.check("*a*b*", "*b*a*", "aba")
        self.check("*b*", "*a*", "ab")
        self.check("*[ab]*", "*[bc]*", "b")
        self.check("*[ad]*", "*[bc]*", "ab")
        self.check("**/a/**/c", "**/b/**/c", "a/b/c")
        self.check("?[bc]*", "[bc]?*", "bb")
        self.check("*ab*", "*ba*", "aba")

    def test_parts_that_are_not_dots_alone(self):
        self.check("?*", ".*", ".\x01")
        self.check(".*", "*.", ".\x01.")
        self.check(".*", "..*", "..\x01")
        self.check(".*", "?", None)
        self.check("..*", "??", None)
        self.check("..*", "???", "..\x01")
        self.check("..*", "*.", "...")
        self.check("[.]*", "*[.-0]", ".0")
        self.check("[.a]", "[.]*", None)
        self.check("/.*/a", "**/a", ".\x01/a")
        self.check("[.b]*", "[.c]*", ".\x01")

    def test_a_slash_at_the_end_plays_no_part(self):
        self.check("a/", "a", "a")
        self.check("a*/", "*b", "ab")
        self.check("a*/", "*b/", "ab")
        self.check("a/**/", "**/b", "a/b")
        self.check("a/", "a/b", None)

    def test_no_path_by_one_of_them(self):
        for line in (".", "..", "[.]", "[!\x01-\xff]", "a/./b", "\x00"):
            self.check(line, "**", None)
            self.check(line, line, None)


class Texts(unittest.TestCase):
    def test_lines_that_say_nothing_among_the_lines(self):
        for lines in (("a*", "", "*b"), ("", "a*", "*b"), ("a*", "*b", ""), ("#", "a*", "#[", "", "*b", "#!c", "")):
            with self.subTest(lines=lines):
                self.assertEqual(last(least(*lines)), [1, 2, 97, 98])
        self.assertEqual(last(least("", "a", "#b")), [1, 1, 97])

    def test_64_bytes_and_65(self):
        self.assertEqual(last(least("a" + "\n" * 63)), [1, 1, 97])
        self.assertEqual(last(least("a" + "\n" * 64)), [-1])
        self.assertEqual(last(least("\n" * 63 + ".")), [0])
        self.assertEqual(last(least("\n" * 64 + ".")), [-1])
        self.assertEqual(last(least("*" * 24, "?" * 24, "#" * 14)), [1, 24] + [1] * 24)
        self.assertEqual(last(least("*" * 24, "?" * 24, "#" * 15)), [-1])

    def test_lines_of_24_bytes_and_25(self):
        self.assertEqual(last(least("a" * 24)), [1, 24] + [97] * 24)
        self.assertEqual(last(least("a" * 25)), [-1])
        self.assertEqual(last(least("a", "*" * 24)), [1, 1, 97])
        self.assertEqual(last(least("a", "*" * 25)), [-1])
        # What is taken off counts, too.
        self.assertEqual(last(least("/" + "a" * 22 + "/")), [1, 22] + [97] * 22)
        self.assertEqual(last(least("/" + "a" * 23 + "/")), [-1])

    def test_a_line_that_says_nothing_has_24_bytes_at_most_too(self):
        self.assertEqual(last(least("a", "#" * 24)), [1, 1, 97])
        self.assertEqual(last(least("a", "#" * 25)), [-1])
        self.assertEqual(last(least("#" + "a" * 24, "a")), [-1])

    def test_a_line_at_fault(self):
        for line in FAULTS:
            with self.subTest(line=line):
                self.assertEqual(run(least(line), least("a", line), least(line, "a"), least("#", line, "")), [[-1]] * 4)

    def test_a_pattern_with_a_bang(self):
        for line in ("!a", "!!", "!a/", "!/a", "!*", "!#"):
            with self.subTest(line=line):
                self.assertEqual(run(least(line), least("a", line), least(line, "a")), [[-1]] * 3)
        self.assertEqual(run(least("\\!a"), least("a!"), least("/!a"), least("[!a]"), least("#!a", "b")),
                         [[1, 2, 33, 97], [1, 2, 97, 33], [1, 2, 33, 97], [1, 1, 1], [1, 1, 98]])

    def test_no_pattern(self):
        self.assertEqual(run(least(""), least("", ""), least("#"), least("#a", "", "#")), [[-1]] * 4)

    def test_three_patterns(self):
        self.assertEqual(run(least("a", "a", "a"), least("a", "", "b", "#", "c"), least("a", "a", "a", "a")), [[-1]] * 3)
        self.assertEqual(run(least("a", "a", ""), least("a", "a", "#a")), [[1, 1, 97]] * 2)

    def test_whatever_lists_there_are(self):
        asked = [least("a*", "*b"), least("."), least("!a"), least("*")]
        answered = [[1, 2, 97, 98], [0], [-1], [1, 1, 1]]
        self.assertEqual(run(*asked), answered)
        given = run(add("", "*\n!ab"), add("d", "a*"), *asked, lists(), becomes("ab"), becomes("b"), *asked)
        self.assertEqual(given, [[0], [1]] + answered + [[2], [1, 0, 2], [2, 0, 1]] + answered)


def made_line(source):
    pieces = ["a", "b", "*", "*", "?", ".", "..", "[ab]", "[.a]", "[!a]", "[!\x01]", "[.-0]", "\\a", "[!\x01-.]"]
    parts = []
    for number in range(source.choice([1, 1, 2, 2, 3])):
        size = source.choice([1, 1, 2, 3])
        parts.append("**" if source.random() < 0.25 else "".join(source.choice(pieces) for piece in range(size)))
    return source.choice(["", "", "/"]) + "/".join(parts) + source.choice(["", "", "", "/"])


def long_line(source):
    """A line of 24 bytes at most and not much fewer, that is a pattern."""
    line = source.choice(["", "/"])
    while len(line) < 18:
        line += source.choice(["a", "b", "*", "*", "?", ".", "[ab]", "/**/" if line != "" and line[-1] != "/" else "**/",
                               "/" if line != "" and line[-1] != "/" else "a"])
    return line


class ByChance(unittest.TestCase):
    def made(self, source, line):
        """What least tells of one made pattern or two, and the reference's patterns."""
        lines = [line(source) for number in range(source.choice([1, 2, 2, 2]))]
        if any(len(one) > 24 for one in lines):
            return None
        told = last(least(*lines))
        patterns = [Pattern(one.encode("latin-1")) for one in lines]
        self.assertIn(told[0], (0, 1), lines)
        path = None
        if told != [0]:
            path = bytes(told[2:])
            self.assertEqual(told[1], len(path), lines)
            self.assertTrue(is_path(path), (lines, path))
            self.assertTrue(all(pattern.matches(path, True) for pattern in patterns), (lines, path))
            # The program's own fits says so too.
            self.assertEqual(run(*[fits(one, path, 1) for one in lines]), [[1]] * len(lines), (lines, path))
        return lines, patterns, path

    def test_against_all_short_paths(self):
        found = {}
        for seed in range(1200):
            made = self.made(random.Random(seed), made_line)
            if made is not None:
                lines, patterns, path = made
                tried = least_by_trying(patterns, 4)
                self.assertEqual(path if path is not None and len(path) <= 4 else None, tried, lines)
                length = 0 if path is None else len(path)
                found[length] = found.get(length, 0) + 1
        # The texts are worth something only if there are many of each length, and many without a path.
        for length in range(5):
            self.assertGreater(found[length], 20)

    def test_against_a_walk_in_the_order_of_the_paths(self):
        found = 0
        for seed in range(1500):
            made = self.made(random.Random(seed), made_line if seed % 3 else long_line)
            if made is not None:
                lines, patterns, path = made
                self.assertEqual(path, least_by_walking(patterns), lines)
                found += path is not None and len(path) > 5
        self.assertGreater(found, 200)


class Costly(LeastCase):
    def test_many_stars_in_both(self):
        self.check("*a" * 12, "*b" * 12, None)
        self.check("*a" * 12, "*b" * 11 + "*", "a" * 11 + "b" * 11 + "a")
        self.check("*a" * 12, "*a" * 11 + "*b", None)
        self.check("*" * 24, "*" * 24, "\x01")
        self.check("*?" * 12, "?*" * 12, "\x01" * 12)
        self.check("*a" + "?" * 22, "*b" + "?" * 22, None)
        self.check("*a" + "?" * 20, "*b" + "?" * 21, "ba" + "\x01" * 20)
        self.check("*a" + "?" * 10 + "*", "*b" + "?" * 11, "ba" + "\x01" * 10)

    def test_many_parts_in_both(self):
        self.check("**/" * 8, "**/" * 8, "\x01")
        self.check("**/a/" * 4 + "**/b", "**/c/" * 4 + "**/b", "a/a/a/a/c/c/c/c/b")
        self.check("**/a/" * 4 + "**/b", "**/c/" * 4 + "**/d", None)
        self.check("*/" * 11 + "*", "**/*/" * 4 + "**/a", "\x01/" * 11 + "a")
        self.check("**/*a/" * 4, "**/*b/" * 4, None)
        self.check("**/*a/" * 3 + "**", "**/*b/" * 3 + "**", "a/a/a/b/b/b/\x01")

    def test_the_longest(self):
        self.check("?" * 24, "*/" * 12, "\x01/" * 11 + "\x01" * 24)
        self.check("?" * 24, "*/" * 11 + "*", "\x01/" * 11 + "\x01" * 24)
        self.check("..*/..*/..*/..*/..*/..*", "**/.*.*.*.*.*.*.*.*.*.*", "..\x01/" * 5 + "." * 10)

    def test_as_many_as_a_case_may_have(self):
        lines = ("..*/**/a**/**/..**/*/*/*", "*/*/a/**/?*/**/***/?**/.")
        calls = [least(*lines)] * 131
        self.assertLessEqual(len(calls) * (sum(len(call) - 1 for call in calls) + 1000), 1000000)
        self.assertEqual(run(*calls), [[0]] * 131)
        self.assertEqual(run(*[least("*a" * 12, "*b" * 11 + "*")] * 131),
                         [[1, 23] + row("a" * 11 + "b" * 11 + "a")] * 131)


if __name__ == "__main__":
    unittest.main()
