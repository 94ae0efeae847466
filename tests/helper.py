"""Writes calls as the one list of whole numbers that the interface takes, and reads the answers."""

from passpatterns.lists import answers


def row(value):
    """The bytes of a text (signs up to 255), or of bytes or a list, as a list of whole numbers."""
    if isinstance(value, str):
        return list(value.encode("latin-1"))
    return list(value)


def counted(value):
    numbers = row(value)
    return [len(numbers)] + numbers


def add(directory, text):
    return [0] + counted(directory) + counted(text)


def drop(number):
    return [1, number]


def lists():
    return [2]


def becomes(path, is_directory=0):
    return [3, is_directory] + counted(path)


def run(*calls):
    """The answer of each call, all of them made on one new object."""
    given = answers([number for call in calls for number in call])
    parted = []
    place = 0
    while place < len(given):
        length = given[place]
        parted.append(given[place + 1:place + 1 + length])
        place += 1 + length
    assert place == len(given)
    assert len(parted) == len(calls)
    return parted


def last(*calls):
    """The answer of the last call."""
    return run(*calls)[-1]


def matches(pattern, path, is_directory=0):
    """Whether the pattern, the one line of a list at the root, matches the entry, with nothing above it dropped.

    The pattern is set behind a `!`: then no directory above is dropped, and what it matches is kept by line 1.
    """
    added, fate = run(add("", "!" + pattern), becomes(path, is_directory))
    assert added == [0], pattern
    assert fate in ([0], [1, 0, 1]), fate
    return fate == [1, 0, 1]
