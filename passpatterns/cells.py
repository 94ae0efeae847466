"""Cells: the steps by which a pattern makes a path, byte by byte.

A set of bytes is a whole number here: its bit b is 1 if the byte b is in the set.
"""

from passpatterns.signs import SLASH


class Cell:
    """Makes any number of bytes of stays, then one byte of moves; if optional, it also makes no byte at all."""

    def __init__(self, stays, moves, optional):
        self.stays = stays
        self.moves = moves
        self.optional = optional


def bytes_between(low, high):
    return ((1 << (high - low + 1)) - 1) << low


def path_bytes():
    return bytes_between(1, 255)


def part_bytes():
    return path_bytes() ^ (1 << SLASH)


def byte_cell(byte_set):
    # A class may name the byte 0 or reach across the slash, but no part of a path has them.
    return Cell(0, byte_set & part_bytes(), False)


def star_cell():
    return Cell(part_bytes(), part_bytes(), True)


def slash_cell():
    return Cell(0, 1 << SLASH, False)


def any_parts_cell():
    """The part `**` and the slash behind it: nothing, or all up to one of the slashes that follow."""
    return Cell(path_bytes(), 1 << SLASH, True)


def last_parts_cell():
    """The part `**` at the end. It begins where a part does, so one byte more is one part more."""
    return Cell(path_bytes(), path_bytes(), False)
