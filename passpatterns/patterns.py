"""Reading a line of a list: it says nothing, is a pattern, or is at fault."""

from passpatterns.cells import any_parts_cell, byte_cell, last_parts_cell, part_bytes, slash_cell, star_cell
from passpatterns.classes import read_class, read_escaped
from passpatterns.faults import LineFault
from passpatterns.matching import Matcher
from passpatterns.paths import parted
from passpatterns.signs import BACKSLASH, BANG, HASH, OPEN_BRACKET, QUESTION, SLASH, STAR


class Pattern:
    def __init__(self, keeps, for_directories, anchored, cells):
        self.keeps = keeps
        self.for_directories = for_directories
        self.anchored = anchored
        self.matcher = Matcher(cells)


def read_cell(part, place):
    """The cell that begins at the place, and the place behind what it was read from."""
    byte = part[place]
    if byte == STAR:
        return (star_cell(), place + 1)
    if byte == QUESTION:
        return (byte_cell(part_bytes()), place + 1)
    if byte == OPEN_BRACKET:
        found = read_class(part, place)
        return (byte_cell(found[0]), found[1])
    if byte == BACKSLASH:
        escaped = read_escaped(part, place)
        return (byte_cell(1 << escaped[0]), escaped[1])
    return (byte_cell(1 << byte), place + 1)


def part_cells(part):
    if part == []:
        raise LineFault("a part has no byte")
    cells = []
    place = 0
    while place < len(part):
        found = read_cell(part, place)
        # The last of several stars in a row makes all that they make: more of them would only be more to go through.
        if part[place:place + 2] != [STAR, STAR]:
            cells.append(found[0])
        place = found[1]
    return cells


def is_many_parts(part):
    return part == [STAR, STAR]


def pattern_cells(parts):
    cells = []
    for place, part in enumerate(parts[:-1]):
        if not is_many_parts(part):
            cells.extend(part_cells(part))
            cells.append(slash_cell())
        elif not is_many_parts(parts[place + 1]):
            # Likewise the last of several `**` in a row makes all that they make, also at the pattern's end.
            cells.append(any_parts_cell())
    if is_many_parts(parts[-1]):
        cells.append(last_parts_cell())
    else:
        cells.extend(part_cells(parts[-1]))
    return cells


def says_nothing(line):
    return line == [] or line[0] == HASH


def read_pattern(line):
    keeps = line[:1] == [BANG]
    body = line[1:] if keeps else line
    for_directories = body[-1:] == [SLASH]
    if for_directories:
        body = body[:-1]
    anchored = SLASH in body
    if not anchored:
        body = [STAR, STAR, SLASH] + body
    elif body[0] == SLASH:
        body = body[1:]
    return Pattern(keeps, for_directories, anchored, pattern_cells(parted(body, SLASH)))


def read_line(line):
    """The line's pattern, or None if it says nothing; raises LineFault if it is at fault."""
    if says_nothing(line):
        return None
    return read_pattern(line)
