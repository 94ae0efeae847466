"""Reading a class: a `[`, perhaps a `!`, stretches of bytes, a `]`.

Each function reads from a place on and answers what it read and the place behind it.
"""

from passpatterns.cells import bytes_between
from passpatterns.faults import LineFault
from passpatterns.signs import BACKSLASH, BANG, CLOSE_BRACKET, DASH


def read_escaped(part, place):
    """Reads a `\\` and the byte behind it."""
    if place + 1 >= len(part):
        raise LineFault("a backslash has no byte behind it")
    return (part[place + 1], place + 2)


def read_class_byte(part, place):
    if place >= len(part) or part[place] in (CLOSE_BRACKET, DASH):
        raise LineFault("a class lacks a byte")
    if part[place] == BACKSLASH:
        return read_escaped(part, place)
    return (part[place], place + 1)


def read_stretch(part, place):
    first = read_class_byte(part, place)
    low = first[0]
    behind = first[1]
    if part[behind:behind + 1] != [DASH]:
        return (bytes_between(low, low), behind)
    second = read_class_byte(part, behind + 1)
    high = second[0]
    if high < low:
        raise LineFault("a stretch ends below its beginning")
    return (bytes_between(low, high), second[1])


def read_stretches(part, place):
    """Reads one stretch or more, up to the `]` or the end of the part."""
    stretch = read_stretch(part, place)
    byte_set = stretch[0]
    place = stretch[1]
    while place < len(part) and part[place] != CLOSE_BRACKET:
        stretch = read_stretch(part, place)
        byte_set = byte_set | stretch[0]
        place = stretch[1]
    return (byte_set, place)


def read_class(part, place):
    """Reads a class whose `[` is at the place; what it answers first is the set of the bytes it makes."""
    negated = part[place + 1:place + 2] == [BANG]
    stretches = read_stretches(part, place + 2 if negated else place + 1)
    byte_set = stretches[0]
    end = stretches[1]
    if end == len(part):
        raise LineFault("a class is not closed")
    if negated:
        byte_set = bytes_between(0, 255) ^ byte_set
    return (byte_set, end + 1)
