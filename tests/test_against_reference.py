"""Many cases, made anew in the same way each time, answered as the plain reference answers them (promise 1 to 8)."""

import random
import unittest

from tests import helper
from tests.reference import Object

NAMES = [b"a", b"b", b"ab", b"ba", b".a", b"*", b"[", b"-", b"!", b"#", b"\\", b"aab", b"]", b"\xff"]
PIECES = [b"a", b"b", b"*", b"?", b"**", b"/", b"\\", b"[", b"]", b"!", b"-", b"#", b"[ab]", b"[!a]", b"[a-b]", b"\\*",
          b"/**/", b"**/", b"[!", b".", b"\n", b"\xff", b"[+-9]"]


def made_path(source, most):
    return b"/".join(source.choice(NAMES[:6] if source.random() < 0.8 else NAMES) for part in range(source.randint(1, most)))


def plain_line(source):
    """A line that is mostly a pattern."""
    parts = [source.choice([b"a", b"b", b"*", b"**", b"?", b"a*", b"*b", b"[ab]", b"[!a]", b"ab", b"**"])
             for part in range(source.choice([1, 1, 1, 2, 2, 3]))]
    return (source.choice([b"", b"", b"!"]) + source.choice([b"", b"", b"/"]) + b"/".join(parts)
            + source.choice([b"", b"", b"/"]))


def wild_line(source):
    """A line that may well be at fault."""
    return b"".join(source.choice(PIECES) for piece in range(source.randint(0, 6)))


def made_text(source):
    wild = source.random() < 0.25
    line = wild_line if wild else plain_line
    return b"\n".join(line(source) for number in range(source.randint(0, 5)))


def made_call(source, model):
    """A call's numbers and what the model answers to it."""
    choice = source.random()
    if choice < 0.25:
        directory = b"" if source.random() < 0.5 else made_path(source, 2)
        if source.random() < 0.03:
            directory += b"/"
        text = made_text(source)
        return helper.add(directory, text), model.add(directory, text)
    if choice < 0.33:
        number = source.randint(0, 8)
        return helper.drop(number), model.drop(number)
    if choice < 0.36:
        return helper.lists(), model.count()
    path = made_path(source, 4)
    if source.random() < 0.03:
        path += source.choice([b"/", b"//a", b"/.", b"/..", b"\x00"])
    is_directory = source.choice([0, 0, 1, 77])
    return helper.becomes(path, is_directory), model.becomes(path, is_directory != 0)


class AgainstReference(unittest.TestCase):
    def test_made_cases(self):
        seen = {}
        for seed in range(400):
            source = random.Random(seed)
            model = Object()
            made = [made_call(source, model) for number in range(60)]
            given = helper.run(*[call for call, expected in made])
            for place, (call, expected) in enumerate(made):
                self.assertEqual(given[place], expected, (seed, place, call))
                seen[(call[0], expected[0])] = True
        # The cases are worth something only if they come by every kind of answer.
        for kind in ((0, -1), (0, -3), (0, -4), (0, 3), (1, -1), (1, 0), (2, 2), (3, -1), (3, 0), (3, 1), (3, 2)):
            self.assertIn(kind, seen)

    def test_made_lines(self):
        for seed in range(4000):
            source = random.Random(seed)
            line = wild_line(source).replace(b"\n", b"")
            model = Object()
            paths = [made_path(source, 3) for number in range(6)]
            expected = [model.add(b"", line)] + [model.becomes(path, False) for path in paths]
            given = helper.run(helper.add(b"", line), *[helper.becomes(path) for path in paths])
            self.assertEqual(given, expected, (line, paths))


if __name__ == "__main__":
    unittest.main()
