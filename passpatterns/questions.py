"""The questions about patterns that are handed in: what they answer has nothing to do with the lists there are."""

from passpatterns.fates import matches
from passpatterns.faults import LineFault
from passpatterns.machines import both, path_machine, pattern_machine
from passpatterns.paths import is_path, parted
from passpatterns.patterns import read_line
from passpatterns.shortest import least_row
from passpatterns.signs import LINE_FEED

MOST_FITS_BYTES = 128
MOST_LEAST_BYTES = 64
MOST_LEAST_LINE_BYTES = 24
MOST_LEAST_PATTERNS = 2


def fits_pattern(line):
    """The pattern that fits is asked of, or None if the line isn't one."""
    if len(line) > MOST_FITS_BYTES or LINE_FEED in line:
        return None
    try:
        return read_line(line)
    except LineFault:
        return None


def fits(is_directory, line, path):
    pattern = fits_pattern(line)
    if pattern is None:
        return [-1]
    if not is_path(path):
        return [-2]
    return [1 if matches(pattern, is_directory != 0, path) else 0]


def patterns_of(lines):
    patterns = [read_line(line) for line in lines]
    return [pattern for pattern in patterns if pattern is not None]


def least_patterns(text):
    """The patterns that least is asked of; none of them if the text is to be refused."""
    if len(text) > MOST_LEAST_BYTES:
        return []
    lines = parted(text, LINE_FEED)
    if max([len(line) for line in lines]) > MOST_LEAST_LINE_BYTES:
        return []
    try:
        patterns = patterns_of(lines)
    except LineFault:
        return []
    if len(patterns) > MOST_LEAST_PATTERNS or any([pattern.keeps for pattern in patterns]):
        return []
    return patterns


def least(text):
    patterns = least_patterns(text)
    if patterns == []:
        return [-1]
    # Nothing here minds that a path has 256 bytes at most, for no least one comes near. A pattern of 24 bytes has at
    # most 25 cells, so at most 50 bytes of a path move on in a pattern; between two of these stand at most 3 that
    # stay in both, else the path would be twice at one place of the machine, and a shorter one could be made.
    machine = path_machine()
    for pattern in patterns:
        machine = both(machine, pattern_machine(pattern.matcher))
    path = least_row(machine)
    if path is None:
        return [0]
    return [1, len(path)] + path
