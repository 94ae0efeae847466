"""rule: what a line says, and which lines there are."""

import unittest

from tests.helper import add, becomes, drop, fits, least, lists, rule, run


def rules(text, *lines):
    """What rule answers of these lines of a list with the text."""
    given = run(add("", text), *[rule(0, line) for line in lines])
    assert given[0] == [0], text
    return [answer[0] for answer in given[1:]]


class WhatALineSays(unittest.TestCase):
    def test_nothing(self):
        for line in ("", "#", "#a", "##", "#!a/", "#[", "# /"):
            with self.subTest(line=line):
                self.assertEqual(rules(line, 1), [0])

    def test_each_by_itself(self):
        self.assertEqual(rules("a", 1), [1])
        self.assertEqual(rules("!a", 1), [3])
        self.assertEqual(rules("a/", 1), [5])
        self.assertEqual(rules("/a", 1), [9])

    def test_together(self):
        self.assertEqual(rules("!a/", 1), [7])
        self.assertEqual(rules("!/a", 1), [11])
        self.assertEqual(rules("/a/", 1), [13])
        self.assertEqual(rules("!/a/", 1), [15])

    def test_any_slash_but_the_one_at_the_end_anchors(self):
        for line in ("a/b", "a/b/c", "/a/b", "**/a", "/**", "a/**", "*/*", "[a]/b", "\\!/a"):
            with self.subTest(line=line):
                self.assertEqual(rules(line, 1), [9])
                self.assertEqual(rules(line + "/", 1), [13])
                self.assertEqual(rules("!" + line, 1), [11])
                self.assertEqual(rules("!" + line + "/", 1), [15])

    def test_without_another_slash_it_is_not_anchored(self):
        for line in ("*", "**", "?", "[a-b]", "\\#", "\\!a", " ", "a!", "[!a]", "]", ".", ".."):
            with self.subTest(line=line):
                self.assertEqual(rules(line, 1), [1])
                self.assertEqual(rules(line + "/", 1), [5])
                self.assertEqual(rules("!" + line, 1), [3])
                self.assertEqual(rules("!" + line + "/", 1), [7])

    def test_one_bang_alone_is_taken_off(self):
        self.assertEqual(rules("!!a", 1), [3])
        self.assertEqual(rules("!#a", 1), [3])
        self.assertEqual(rules("/!a", 1), [9])

    def test_of_several_lines(self):
        self.assertEqual(rules("a\n\n!b/\n#\n/c", 1, 2, 3, 4, 5), [1, 0, 7, 0, 9])


class WhichLinesThereAre(unittest.TestCase):
    def test_behind_the_last_line_feed_is_an_empty_line(self):
        self.assertEqual(rules("a\n", 1, 2, 3), [1, 0, -1])
        self.assertEqual(rules("\n", 1, 2, 3), [0, 0, -1])
        self.assertEqual(rules("a\nb", 1, 2, 3), [1, 1, -1])
        self.assertEqual(rules("", 1, 2), [0, -1])
        self.assertEqual(rules("\n" * 512, 512, 513, 514), [0, 0, -1])

    def test_no_such_line(self):
        self.assertEqual(rules("a\n!b\nc/", 0, 4, 5, 4294967295), [-1, -1, -1, -1])
        self.assertEqual(rules("", 0), [-1])

    def test_no_such_list(self):
        self.assertEqual(run(rule(0, 1), rule(0, 0)), [[-1], [-1]])
        self.assertEqual(run(add("", "a"), rule(1, 1), rule(4294967295, 1), rule(1, 0)), [[0], [-1], [-1], [-1]])
        self.assertEqual(run(add("", "["), rule(0, 1)), [[-3, 1], [-1]])

    def test_the_numbers_behind_a_drop(self):
        added = [add("", "a"), add("d", "!b"), add("", "c/\n"), add("e/f", "/g")]
        self.assertEqual(run(*added, *[rule(number, 1) for number in range(5)])[4:], [[1], [3], [5], [9], [-1]])
        self.assertEqual(run(*added, drop(1), *[rule(number, 1) for number in range(4)], rule(1, 2), rule(0, 2))[5:],
                         [[1], [5], [9], [-1], [0], [-1]])
        self.assertEqual(run(*added, drop(0), drop(0), add("", "!/x/"), *[rule(number, 1) for number in range(4)])[7:],
                         [[5], [9], [15], [-1]])

    def test_it_changes_nothing(self):
        given = run(add("", "a\n!b"), rule(0, 1), rule(0, 2), rule(0, 3), rule(1, 1), lists(), becomes("a"), becomes("b"),
                    rule(0, 1), fits("a", "a"), least("a"), rule(0, 2))
        self.assertEqual(given, [[0], [1], [3], [-1], [-1], [1], [2, 0, 1], [1, 0, 2], [1], [1], [1, 1, 97], [3]])


if __name__ == "__main__":
    unittest.main()
