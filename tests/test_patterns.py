"""What a pattern matches (promises 4 and 5)."""

import unittest

from tests.helper import add, becomes, last, matches, run


class PatternCase(unittest.TestCase):
    def check(self, pattern, made, not_made, is_directory=0):
        for path in made:
            with self.subTest(pattern=pattern, path=path, made=True):
                self.assertTrue(matches(pattern, path, is_directory))
        for path in not_made:
            with self.subTest(pattern=pattern, path=path, made=False):
                self.assertFalse(matches(pattern, path, is_directory))


class Slashes(PatternCase):
    def test_without_a_slash_it_goes_by_the_name_however_deep(self):
        self.check("a", ["a", "b/a", "b/c/d/a", "a/a", "x/" * 127 + "a"], ["b", "ba", "ab", "a/b", "b/ba", "A"])
        self.check("*.o", ["x.o", ".o", "d/x.o", "d/e/f.o"], ["x.oo", "x.o/y", "xo"])

    def test_a_slash_in_front_anchors(self):
        self.check("/a", ["a"], ["b/a", "a/a", "a/b", "aa"])
        self.check("/*", ["a", "bcd"], ["a/b", "a/b/c"])

    def test_a_slash_in_the_middle_anchors(self):
        self.check("a/b", ["a/b"], ["x/a/b", "a", "b", "a/b/c", "a/x/b", "ab"])
        self.check("/a/b", ["a/b"], ["x/a/b", "a", "a/b/c"])
        self.check("*/b", ["a/b", "xyz/b"], ["b", "a/c/b", "a/b/c"])

    def test_a_slash_at_the_end_is_for_directories_and_does_not_anchor(self):
        self.check("a/", ["a", "b/a", "b/c/a"], ["b", "a/b"], is_directory=1)
        self.check("a/", [], ["a", "b/a", "b", "a/b"])
        self.check("/a/", ["a"], ["b/a"], is_directory=1)
        self.check("/a/", [], ["a", "b/a"])
        self.check("a/b/", ["a/b"], ["x/a/b"], is_directory=1)

    def test_without_a_slash_at_the_end_it_is_for_all(self):
        self.check("a", ["a", "b/a"], [], is_directory=1)

    def test_any_number_but_0_is_a_directory(self):
        for number in (1, 2, 255, 4294967295):
            self.assertTrue(matches("a/", "a", number))
        self.assertFalse(matches("a/", "a", 0))


class ManyParts(PatternCase):
    def test_in_front(self):
        self.check("**/a", ["a", "b/a", "b/c/a"], ["ba", "b/ca", "a/b", "b"])
        self.check("**/a/b", ["a/b", "x/a/b", "x/y/a/b", "a/a/b", "a/b/a/b"], ["b", "xa/b", "a/x/b", "a/b/c"])
        self.check("/**/a", ["a", "b/a"], ["ba", "a/b"])

    def test_in_the_middle(self):
        self.check("a/**/b", ["a/b", "a/x/b", "a/x/y/b", "a/b/b", "a/a/b"], ["ab", "a", "b", "x/a/b", "a/xb", "a/b/c"])
        self.check("a/**/**/b", ["a/b", "a/x/b", "a/x/y/z/b"], ["a/xb", "a", "b"])
        self.check("**/a/**/b", ["a/b", "x/a/b", "x/a/y/b"], ["a", "b", "xa/b", "a/xb"])

    def test_at_the_end_it_is_one_part_at_least(self):
        self.check("a/**", ["a/b", "a/b/c", "a/a"], ["a", "b", "b/a", "ab", "b/a/c"])
        self.check("**/a/**", ["a/b", "x/a/b", "x/a/b/c"], ["a", "x/a", "xa/b"])
        self.check("a/**/**", ["a/b", "a/b/c"], ["a"])
        self.check("a/**/*", ["a/b", "a/b/c"], ["a", "b"])
        self.check("*/**", ["a/b", "a/b/c"], ["a"])

    def test_alone_it_is_everything(self):
        for pattern in ("**", "/**", "**/**", "**/**/**", "**/*"):
            self.check(pattern, ["a", "a/b", "a/b/c", "\n", "\xff/\x01"], [])
        self.check("**/", ["a", "a/b"], [], is_directory=1)
        self.check("**/", [], ["a", "a/b"])
        self.check("a/**/", ["a/b", "a/b/c"], ["a"], is_directory=1)
        self.check("a/**/", [], ["a/b"])

    def test_only_the_two_stars_alone_are_many_parts(self):
        self.check("/a**", ["a", "ab", "abc"], ["a/b", "ab/c"])
        self.check("/**a", ["a", "ba"], ["b/a"])
        self.check("/***", ["a", "ab"], ["a/b"])
        self.check("/\\**", ["*", "*a"], ["a", "a/b", "*/a"])
        self.check("/[*]*", ["*", "*a"], ["a", "*/a"])
        self.check("a/***/b", ["a/x/b"], ["a/b", "a/x/y/b"])


class Signs(PatternCase):
    def test_star(self):
        self.check("/*", ["a", "abc", ".a", "*"], ["a/b"])
        self.check("/a*", ["a", "ab", "a*"], ["ba", "a/b", "b"])
        self.check("/*a", ["a", "ba", "aa", "baba"], ["ab", "b/a"])
        self.check("/a*b*c", ["abc", "axbxc", "abbcc", "abcbc"], ["ab", "ac", "acb", "abcd", "a/b/c", "ab/c"])
        self.check("/*/*", ["a/b", "ab/cd"], ["a", "a/b/c"])
        self.check("/**/*a*/b", ["a/b", "x/yaz/b"], ["b", "x/b", "a/x/b"])

    def test_question_mark(self):
        self.check("/?", ["a", "?", "\n", "\xff", "\x01"], ["ab", "a/b"])
        self.check("/a?c", ["abc", "a?c", "a.c"], ["ac", "abbc", "a/c"])
        self.check("/?*?", ["ab", "abc"], ["a", "a/b"])

    def test_backslash(self):
        self.check("/\\*", ["*"], ["a", "\\*", "**"])
        self.check("/\\?", ["?"], ["a", "\\?"])
        self.check("/\\[a]", ["[a]"], ["a"])
        self.check("/\\\\", ["\\"], ["\\\\"])
        self.check("/\\a\\b", ["ab"], ["\\a\\b"])
        self.check("/a\\\\*", ["a\\", "a\\b"], ["a*", "ab"])
        self.check("\\!a", ["!a", "b/!a"], ["a", "\\!a"])
        self.check("\\#a", ["#a", "b/#a"], ["a", "\\#a"])
        self.check("/\\\xff", ["\xff"], ["\xfe"])

    def test_other_bytes_are_themselves(self):
        self.check("/]", ["]"], ["[", "a"])
        self.check("/a-c", ["a-c"], ["b", "a", "abc"])
        self.check("/a!#", ["a!#"], ["a", "a!"])
        self.check("/{a,b}+(c).^$|", ["{a,b}+(c).^$|"], ["a"])
        self.check("/a.b", ["a.b"], ["axb"])
        self.check("/ a ", [" a "], ["a", " a", "a "])
        self.check("/\xe9\t\r", ["\xe9\t\r"], ["\xe8\t\r"])

    def test_parts_that_no_path_has(self):
        self.check("*", [".a", "..."], [])
        self.check("/./a", [], ["a", "x/a"])
        self.check("/../a", [], ["a", "x/a"])
        self.check("/\x00", [], ["a", "\x01"])
        self.check("/a\\\x00", [], ["a", "a\x01"])


class Classes(PatternCase):
    def test_bytes(self):
        self.check("/[abc]", ["a", "b", "c"], ["d", "ab", "[abc]", "A"])
        self.check("/x[a]y", ["xay"], ["xy", "x[a]y", "xby"])
        self.check("/[a][b]", ["ab"], ["a", "b", "ba"])
        self.check("/[*?]", ["*", "?"], ["a", "ab"])

    def test_stretches(self):
        self.check("/[b-d]", ["b", "c", "d"], ["a", "e", "-"])
        self.check("/[b-b]", ["b"], ["a", "c", "-"])
        self.check("/[a-cx-z5]", ["a", "b", "c", "x", "y", "z", "5"], ["d", "w", "-", "4", "6"])
        self.check("/[\x01-\xff]", ["\x01", "a", "\xff"], ["ab"])
        self.check("/[\x00-\xfe]", ["\x01", "a", "\xfe"], ["\xff"])
        self.check("/[[-^]", ["[", "\\", "]", "^"], ["Z", "_", "-"])

    def test_with_a_bang(self):
        self.check("/[!a]", ["b", "!", "\xff", "\n"], ["a", "bb"])
        self.check("/[!b-d]", ["a", "e", "-"], ["b", "c", "d"])
        self.check("/[!!]", ["a", "]"], ["!"])
        self.check("/[!!a]", ["b"], ["!", "a"])
        self.check("/[a!]", ["a", "!"], ["b"])
        self.check("/[a!-#]", ["a", "!", "\"", "#"], ["$", "-"])
        self.check("/[!\x00-\xff]", [], ["a", "\xff", "\x01"])

    def test_backslash_within(self):
        self.check("/[\\]]", ["]"], ["\\", "a"])
        self.check("/[\\-]", ["-"], ["\\", "a"])
        self.check("/[\\\\]", ["\\"], ["a", "]"])
        self.check("/[\\!a]", ["!", "a"], ["b", "\\"])
        self.check("/[a\\-c]", ["a", "-", "c"], ["b", "\\"])
        self.check("/[\\a-\\c]", ["a", "b", "c"], ["d", "\\", "-"])
        self.check("/[!\\]a]", ["b", "["], ["]", "a"])
        self.check("/[+-\\-]", ["+", ",", "-"], ["a", "*"])
        self.check("/[\\[-\\]]", ["[", "\\", "]"], ["Z", "^"])

    def test_an_opening_bracket_and_a_hash_within(self):
        self.check("/[[]", ["["], ["]", "a"])
        self.check("[#]", ["#", "a/#"], ["a"])

    def test_behind_the_first_closing_bracket_all_is_itself(self):
        self.check("/[a]]", ["a]"], ["a", "]"])
        self.check("/[\\]]]", ["]]"], ["]"])

    def test_no_class_makes_a_slash(self):
        self.check("/a[!b]c", ["axc"], ["a/c"])
        self.check("/a[.-0]c", ["a.c", "a0c"], ["a/c"])
        self.check("/a[\x01-\xff]c", ["abc"], ["a/c"])


class KeepingLines(unittest.TestCase):
    def test_one_bang_is_taken_off(self):
        self.assertEqual(last(add("", "!a"), becomes("a")), [1, 0, 1])
        self.assertEqual(last(add("", "!!a"), becomes("!a")), [1, 0, 1])
        self.assertEqual(last(add("", "!!a"), becomes("a")), [0])
        self.assertEqual(last(add("", "!#a"), becomes("#a")), [1, 0, 1])
        self.assertEqual(last(add("", "!\\!a"), becomes("!a")), [1, 0, 1])

    def test_a_bang_elsewhere_is_itself(self):
        self.assertEqual(last(add("", "a!"), becomes("a!")), [2, 0, 1])
        self.assertEqual(last(add("", "/!a"), becomes("!a")), [2, 0, 1])

    def test_with_slashes(self):
        self.assertEqual(run(add("", "!/a/"), becomes("a", 1), becomes("a", 0), becomes("b/a", 1)),
                         [[0], [1, 0, 1], [0], [0]])
        self.assertEqual(run(add("", "!a/b"), becomes("a/b"), becomes("x/a/b")), [[0], [1, 0, 1], [0]])


class MeantAsItIs(unittest.TestCase):
    def test_any_byte_behind_a_backslash(self):
        # A line feed parts lines, so it can't stand in one.
        for byte in range(1, 256):
            if byte not in (10, 47):
                others = [[other] for other in range(1, 256) if other not in (46, 47, byte)]
                pattern = [47, 92, byte] if byte != 46 else [47, 97, 92, byte]
                path = [byte] if byte != 46 else [97, byte]
                given = run(add("", pattern), becomes(path), *[becomes(other) for other in others[::25]])
                with self.subTest(byte=byte):
                    self.assertEqual(given, [[0], [2, 0, 1]] + [[0]] * len(others[::25]))

    def test_whole_parts(self):
        for part in ("**", "*", "[a]", "!a", "#a", "\\", "a?b", "[", "]", "...", "a b", "!", "[!a-z]"):
            pattern = "".join("\\" + sign for sign in part)
            with self.subTest(part=part):
                self.assertEqual(run(add("", pattern), becomes(part), becomes("d/" + part), becomes("a"), becomes("ab")),
                                 [[0], [2, 0, 1], [2, 0, 1], [0], [0]])
                self.assertEqual(run(add("", "d/" + pattern + "/x"), becomes("d/" + part + "/x"), becomes("d/a/x")),
                                 [[0], [2, 0, 1], [0]])


class Long(unittest.TestCase):
    def test_many_stars(self):
        self.assertTrue(matches("*a" * 200, "a" * 256))
        self.assertFalse(matches("*a" * 200 + "b", "a" * 256))
        self.assertFalse(matches("**/" * 100 + "b", "a/" * 127 + "a"))
        self.assertTrue(matches("**/" * 100 + "b", "a/" * 127 + "b"))
        self.assertTrue(matches("**/a/" * 60 + "**", "a/" * 127 + "b"))
        self.assertTrue(matches("*" * 511, "a" * 256))

    def test_a_pattern_longer_than_any_path(self):
        self.assertTrue(matches("/" + "a" * 256, "a" * 256))
        self.assertFalse(matches("/" + "a" * 257, "a" * 256))
        self.assertTrue(matches("/" + "\\a" * 255, "a" * 255))


if __name__ == "__main__":
    unittest.main()
