"""The object that holds the lists and answers the calls."""

from passpatterns.fates import fate
from passpatterns.faults import LineFault
from passpatterns.paths import is_path, parted
from passpatterns.patterns import read_line
from passpatterns.signs import LINE_FEED

MOST_TEXT_BYTES = 512
MOST_LISTS = 16
MOST_PATTERNS = 64
MOST_BYTES = 2048


class PatternList:
    """A list: of its lines, line n is at n - 1, a pattern or None; size is the bytes of its text and directory."""

    def __init__(self, directory, size, lines):
        self.directory = directory
        self.size = size
        self.lines = lines

    def pattern_count(self):
        return len([line for line in self.lines if line is not None])


def rule_number(pattern):
    number = 1
    if pattern.keeps:
        number += 2
    if pattern.for_directories:
        number += 4
    if pattern.anchored:
        number += 8
    return number


def have_room(lists):
    patterns = sum([pattern_list.pattern_count() for pattern_list in lists])
    size = sum([pattern_list.size for pattern_list in lists])
    return len(lists) <= MOST_LISTS and patterns <= MOST_PATTERNS and size <= MOST_BYTES


class Store:
    def __init__(self):
        self.lists = []

    def add(self, directory, text):
        if directory != [] and not is_path(directory):
            return [-1]
        if len(text) > MOST_TEXT_BYTES:
            return [-2]
        lines = []
        for line in parted(text, LINE_FEED):
            try:
                lines.append(read_line(line))
            except LineFault:
                return [-3, len(lines) + 1]
        lists = self.lists + [PatternList(directory, len(directory) + len(text), lines)]
        if not have_room(lists):
            return [-4]
        self.lists = lists
        return [len(lists) - 1]

    def drop(self, number):
        if number >= len(self.lists):
            return [-1]
        self.lists.pop(number)
        return [0]

    def list_count(self):
        return [len(self.lists)]

    def becomes(self, is_directory, path):
        if not is_path(path):
            return [-1]
        return fate(self.lists, is_directory != 0, path)

    def rule(self, number, line):
        if number >= len(self.lists):
            return [-1]
        lines = self.lists[number].lines
        if line < 1 or line > len(lines):
            return [-1]
        pattern = lines[line - 1]
        if pattern is None:
            return [0]
        return [rule_number(pattern)]
