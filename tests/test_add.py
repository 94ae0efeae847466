"""add: the directory, the text, lines at fault, and the order of the refusals (promise 8)."""

import unittest

from tests.helper import add, becomes, drop, last, lists, run


class Directories(unittest.TestCase):
    def test_the_root_and_paths_are_taken(self):
        for directory in ("", "a", "a/b", "...", ".a", "a.", "..a/b..", "\n", "\xff", " ", "a/.../b", "\x01"):
            with self.subTest(directory=directory):
                self.assertEqual(run(add(directory, "x"), lists()), [[0], [1]])

    def test_what_is_no_path_is_refused(self):
        for directory in ("/", "/a", "a/", "a//b", "//", ".", "..", "a/.", "./a", "a/..", "../a", "a/./b", "a/../b",
                          "\x00", "a\x00", "a/\x00/b", "\x00a"):
            with self.subTest(directory=directory):
                self.assertEqual(run(add(directory, "x"), lists()), [[-1], [0]])

    def test_256_bytes_and_257(self):
        for directory in ("d" * 256, "a/" * 127 + "aa"):
            self.assertEqual(last(add(directory, "x")), [0])
            self.assertEqual(last(add(directory + "d", "x")), [-1])

    def test_a_directory_of_very_many_bytes(self):
        self.assertEqual(run(add("a" * 30000, "x"), lists()), [[-1], [0]])


class Texts(unittest.TestCase):
    def test_512_bytes_and_513(self):
        for sign in ("a", "#", "\n"):
            self.assertEqual(last(add("", sign * 512)), [0])
            self.assertEqual(run(add("", sign * 513), lists()), [[-2], [0]])

    def test_a_text_of_very_many_bytes(self):
        self.assertEqual(run(add("", "a\n" * 15000), lists()), [[-2], [0]])

    def test_lists_that_say_nothing(self):
        for text in ("", "\n", "\n\n\n", "#", "#[", "#\\", "#a\n#b", "# a\n\n#//\n", "#!", "#\x00"):
            with self.subTest(text=text):
                self.assertEqual(run(add("", text), lists(), becomes("a"), becomes("#", 1)), [[0], [1], [0], [0]])

    def test_a_text_is_parted_at_every_line_feed(self):
        self.assertEqual(run(add("", "a\nb"), becomes("a"), becomes("b")), [[0], [2, 0, 1], [2, 0, 2]])
        self.assertEqual(run(add("", "a\n"), becomes("a")), [[0], [2, 0, 1]])
        self.assertEqual(run(add("", "\n\n#\n\nb"), becomes("b")), [[0], [2, 0, 5]])

    def test_only_a_line_feed_parts(self):
        self.assertEqual(run(add("", "a\rb"), becomes("a\rb"), becomes("b")), [[0], [2, 0, 1], [0]])
        self.assertEqual(run(add("", "a\x00b"), becomes("a"), becomes("b")), [[0], [0], [0]])

    def test_numbers_are_how_many_lists_there_were(self):
        self.assertEqual(run(add("", ""), add("a", "b"), add("", "c"), add("a", "")), [[0], [1], [2], [3]])


FAULTS = (
    # A part without a byte.
    "/", "!", "!/", "//", "!//", "///", "//a", "a//", "a//b", "!//a", "!a//", "/a//b", "**//", "**//a", "//**",
    "/a//",
    # A backslash with none behind it.
    "\\", "a\\", "!\\", "\\\\\\", "a\\/b", "\\/", "a/b\\", "/\\", "a\\/", "*\\",
    # Classes.
    "[", "[a", "[!", "[!a", "[]", "[!]", "[]a]", "[!]a]", "[-a]", "[a-]", "[a-", "[-]", "[!-a]", "[!a-]", "[--a]",
    "[a--]", "[b-a]", "[a-b-c]", "[ac-b]", "[\\", "[\\]", "[a\\", "[a\\]", "[a-\\]", "[a-\\", "[a/b]", "[a/]",
    "[/]", "[!/]", "[\\/]", "[a]]/[", "a[", "*[", "?[b-a]", "[a][", "a/[", "[/a", "!x[", "![!]", "[\xff-\x00]",
    "[\\b-\\a]", "[!b-a]", "[a-b", "[[", "[!!",
)

PATTERNS = (
    "a", "!a", "!!", "!!a", "!#", "\\#", "\\!", "!\\!", " ", "*", "**", "***", "?", "/a", "a/", "/a/", "!/a/", "a/b",
    "/**", "**/", "/**/", "**/**", "!**/a/**/", "a/**/**/b", "]", "]]", "-", "a-b", "\\[", "\\\\", "\\a", ".", "..",
    "a/../b", "\x00", "\\\x00", "[a]", "[!a]", "[!!]", "[a!]", "[!a!]", "[[]", "[a-a]", "[a-b]", "[a-bc-d]",
    "[\\]]", "[\\-]", "[\\\\]", "[!\\]]", "[a\\-z]", "[\\a-\\b]", "[\\--\\]]", "[a-b\\-]", "[*?]", "[#-%]", "[!\\-]",
    "[\x00-\xff]", "[!\x00-\xff]", "[a][b]", "[a]]", "\xff", "a\rb", "a#",
)


class Faults(unittest.TestCase):
    def test_every_way_to_be_at_fault(self):
        for line in FAULTS:
            with self.subTest(line=line):
                self.assertEqual(run(add("", line), lists()), [[-3, 1], [0]])

    def test_keeping_and_dropping_lines_are_at_fault_alike(self):
        for line in FAULTS:
            if not line.startswith("!"):
                with self.subTest(line=line):
                    self.assertEqual(last(add("d", "!" + line)), [-3, 1])

    def test_what_is_not_at_fault(self):
        for line in PATTERNS:
            with self.subTest(line=line):
                self.assertEqual(run(add("", line), lists()), [[0], [1]])

    def test_the_first_line_at_fault_is_told(self):
        self.assertEqual(last(add("", "a\n[\nb\n\\")), [-3, 2])
        self.assertEqual(last(add("", "#[\n\n!\n/")), [-3, 3])
        self.assertEqual(last(add("", "a\n\n\n#\n//")), [-3, 5])
        self.assertEqual(last(add("", "\n" * 511 + "[")), [-3, 512])

    def test_a_class_does_not_reach_across_lines(self):
        self.assertEqual(last(add("", "x\n[a\nb]")), [-3, 2])
        self.assertEqual(last(add("", "a\\\nb")), [-3, 1])

    def test_nothing_of_a_list_at_fault_is_kept(self):
        self.assertEqual(
            run(add("", "!b"), add("", "a\nb\n["), lists(), becomes("a"), becomes("b"), add("", "a")),
            [[0], [-3, 3], [1], [0], [1, 0, 1], [1]])


class Order(unittest.TestCase):
    def test_the_directory_goes_before_the_text(self):
        self.assertEqual(last(add("a/", "[" + "a" * 512)), [-1])

    def test_the_directory_goes_before_faults(self):
        self.assertEqual(last(add(".", "[")), [-1])

    def test_the_text_s_length_goes_before_faults(self):
        self.assertEqual(last(add("", "[" * 513)), [-2])
        self.assertEqual(last(add("", "[" * 512)), [-3, 1])

    def test_faults_go_before_room(self):
        full = [add("", "") for time in range(16)]
        self.assertEqual(last(*full, add("", "a\n[")), [-3, 2])
        self.assertEqual(last(*full, add("", "a" * 513)), [-2])
        self.assertEqual(last(*full, add("/", "a")), [-1])
        self.assertEqual(last(*full, add("", "a")), [-4])

    def test_too_many_patterns_with_a_fault_behind_them(self):
        self.assertEqual(last(add("", "a\n" * 65 + "[")), [-3, 66])

    def test_lists_behind_refused_calls(self):
        self.assertEqual(
            run(add("", "a"), add(".", "a"), lists(), add("", "a" * 513), lists(), add("", "["), lists(),
                add("", "\n".join("a" * 64)), lists(), drop(1), lists(), becomes("/"), lists(), becomes("a")),
            [[0], [-1], [1], [-2], [1], [-3, 1], [1], [-4], [1], [-1], [1], [-1], [1], [2, 0, 1]])


if __name__ == "__main__":
    unittest.main()
