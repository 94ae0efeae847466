"""Writes calls as the one list of whole numbers that the interface takes, and reads the answers."""

from passpatterns.lists import answers


def row(value):
    """The bytes of a text (signs up to 255), or of bytes or a list, as a list of whole numbers."""
    if isinstance(value, str):
        return list(value.encode("latin-1"))
    return list(value)


def counted(value):
    numbers = row(value)
    return [len(numbers)] + numbers


def add(directory, text):
    return [0] + counted(directory) + counted(text)


def drop(number):
    return [1, number]


def lists():
    return [2]


def becomes(path, is_directory=0):
    return [3, is_directory] + counted(path)


def rule(number, line):
    return [4, number, line]


def fits(pattern, path, is_directory=0):
    return [5, is_directory] + counted(pattern) + counted(path)


def least(*lines):
    """The call least on a text of these lines."""
    text = [number for line in lines for number in row(line) + row("\n")][:-1]
    return [6] + counted(text)


def numbers_of(call):
    """How many numbers stand in a call, the lengths of its rows not among them."""
    return len(call) - {0: 2, 3: 1, 5: 2, 6: 1}.get(call[0], 0)


def run(*calls):
    """The answer of each call, all of them made on one new object."""
    given = answers([number for call in calls for number in call])
    parted = []
    place = 0
    while place < len(given):
        length = given[place]
        parted.append(given[place + 1:place + 1 + length])
        place += 1 + length
    assert place == len(given)
    assert len(parted) == len(calls)
    return parted


def last(*calls):
    """The answer of the last call."""
    return run(*calls)[-1]


def matches(pattern, path, is_directory=0):
    """Whether the pattern, the one line of a list at the root, matches the entry, with nothing above it dropped.

    The pattern is set behind a `!`: then no directory above is dropped, and what it matches is kept by line 1.
    fits must answer the same, of each pattern that it takes.
    """
    added, fate, with_bang, without = run(
        add("", "!" + pattern), becomes(path, is_directory),
        fits("!" + pattern, path, is_directory), fits(pattern, path, is_directory))
    assert added == [0], pattern
    assert fate in ([0], [1, 0, 1]), fate
    assert with_bang == ([-1] if len(pattern) > 127 else [fate[0]]), (pattern, path, with_bang)
    assert without == ([-1] if len(pattern) > 128 else [fate[0]]), (pattern, path, without)
    return fate == [1, 0, 1]
