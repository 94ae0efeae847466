"""Many cases, made anew in the same way each time, answered as the plain reference answers them (promise 1 to 8)."""

import random
import unittest

from tests import helper, reference
from tests.reference import Object

NAMES = [b"a", b"b", b"ab", b"ba", b".a", b"*", b"[", b"-", b"!", b"#", b"\\", b"aab", b"]", b"\xff"]
PIECES = [b"a", b"b", b"*", b"?", b"**", b"/", b"\\", b"[", b"]", b"!", b"-", b"#", b"[ab]", b"[!a]", b"[a-b]", b"\\*",
          b"/**/", b"**/", b"[!", b".", b"\n", b"\xff", b"[+-9]"]


def made_path(source, most):
    return b"/".join(source.choice(NAMES[:6] if source.random() < 0.8 else NAMES) for part in range(source.randint(1, most)))


def plain_line(source):
    """A line that is mostly a pattern."""
    parts = [source.choice([b"a", b"b", b"*", b"**", b"?", b"a*", b"*b", b"[ab]", b"[!a]", b"ab", b"**"])
             for part in range(source.choice([1, 1, 1, 2, 2, 3]))]
    return (source.choice([b"", b"", b"!"]) + source.choice([b"", b"", b"/"]) + b"/".join(parts)
            + source.choice([b"", b"", b"/"]))


def wild_line(source):
    """A line that may well be at fault."""
    return b"".join(source.choice(PIECES) for piece in range(source.randint(0, 6)))


def made_text(source):
    wild = source.random() < 0.25
    line = wild_line if wild else plain_line
    return b"\n".join(line(source) for number in range(source.randint(0, 5)))


def made_add(source, model):
    directory = b"" if source.random() < 0.5 else made_path(source, 2)
    if source.random() < 0.03:
        directory += b"/"
    text = made_text(source)
    return helper.add(directory, text), model.add(directory, text)


def made_drop(source, model):
    number = source.randint(0, 8)
    return helper.drop(number), model.drop(number)


def made_lists(source, model):
    return helper.lists(), model.count()


def path_or_none(source):
    """Mostly a path."""
    path = made_path(source, 4)
    if source.random() < 0.03:
        path += source.choice([b"/", b"//a", b"/.", b"/..", b"\x00"])
    return path


def made_becomes(source, model):
    path = path_or_none(source)
    is_directory = source.choice([0, 0, 1, 77])
    return helper.becomes(path, is_directory), model.becomes(path, is_directory != 0)


def made_rule(source, model):
    number = source.randint(0, 8)
    line = source.randint(0, 6)
    return helper.rule(number, line), model.rule(number, line)


def made_fits(source, model):
    line = source.choice([plain_line, plain_line, wild_line])(source)
    path = path_or_none(source)
    is_directory = source.choice([0, 0, 1, 77])
    return helper.fits(line, path, is_directory), reference.fits(line, path, is_directory != 0)


def made_least(source, model):
    text = b"\n".join(plain_line(source).lstrip(b"!" if source.random() < 0.9 else b"")
                      for number in range(source.choice([1, 2, 2, 2, 2, 3])))
    if source.random() < 0.2:
        text = made_text(source)
    return helper.least(text), reference.least(text)


MAKERS = [made_add, made_drop, made_lists, made_becomes, made_rule, made_fits, made_least]
HOW_OFTEN = [20, 6, 2, 40, 12, 12, 8]


def made_calls(source, many):
    """So many calls on one object: the numbers of each, and what the reference answers to it."""
    model = Object()
    return [maker(source, model) for maker in source.choices(MAKERS, HOW_OFTEN, k=many)]


KINDS = ((0, -1), (0, -3), (0, -4), (0, 3), (1, -1), (1, 0), (2, 2), (3, -1), (3, 0), (3, 1), (3, 2), (4, -1), (4, 0),
         *[(4, number) for number in range(1, 16, 2)], (5, -1), (5, -2), (5, 0), (5, 1), (6, -1), (6, 0), (6, 1))


class AgainstReference(unittest.TestCase):
    def test_made_cases(self):
        seen = {}
        for seed in range(400):
            made = made_calls(random.Random(seed), 60)
            given = helper.run(*[call for call, expected in made])
            for place, (call, expected) in enumerate(made):
                self.assertEqual(given[place], expected, (seed, place, call))
                seen[(call[0], expected[0])] = True
        # The cases are worth something only if they come by every kind of answer.
        for kind in KINDS:
            self.assertIn(kind, seen)

    def test_made_cases_of_400_calls(self):
        # Calls so short that even 400 of them keep within the numbers that a case may have.
        pieces = [b"", b"a", b"*", b"b", b"!a", b"/a", b"?", b"a/", b"[", b"/", b"**"]
        for seed in range(30):
            source = random.Random(seed)
            model = Object()
            made = []
            numbers = 0
            while len(made) < 400 and numbers <= 1494:
                text, other = source.choice(pieces), source.choice(pieces)
                number, line = source.randint(0, 16), source.randint(0, 2)
                made.append(source.choice([
                    lambda: (helper.add(b"", text), model.add(b"", text)),
                    lambda: (helper.lists(), model.count()),
                    lambda: (helper.drop(number), model.drop(number)),
                    lambda: (helper.becomes(text, line), model.becomes(text, line != 0)),
                    lambda: (helper.rule(number, line), model.rule(number, line)),
                    lambda: (helper.fits(text, other), reference.fits(text, other, False)),
                    lambda: (helper.least(text), reference.least(text)),
                ])())
                numbers += helper.numbers_of(made[-1][0])
            self.assertEqual(len(made), 400)
            self.assertEqual(helper.run(*[call for call, expected in made]), [expected for call, expected in made], seed)

    def test_made_lines(self):
        for seed in range(4000):
            source = random.Random(seed)
            line = wild_line(source).replace(b"\n", b"")
            model = Object()
            paths = [made_path(source, 3) for number in range(6)]
            expected = [model.add(b"", line)] + [model.becomes(path, False) for path in paths]
            given = helper.run(helper.add(b"", line), *[helper.becomes(path) for path in paths])
            self.assertEqual(given, expected, (line, paths))
            expected = [reference.fits(line, path, True) for path in paths]
            self.assertEqual(helper.run(*[helper.fits(line, path, 1) for path in paths]), expected, (line, paths))


if __name__ == "__main__":
    unittest.main()
