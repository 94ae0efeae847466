"""What becomes of a path, given the lists."""

from passpatterns.paths import entry_ends, lies_below


def matched_ends(pattern, is_directory, rest):
    """How long the path is of each entry that the pattern matches, of those at or above rest."""
    ends = pattern.matcher.matched_ends(rest)
    if pattern.for_directories and not is_directory:
        return [end for end in ends if end < len(rest)]
    return ends


def matches(pattern, is_directory, path):
    """Whether the pattern, its list standing at the root, matches the entry."""
    return len(path) in matched_ends(pattern, is_directory, path)


def choose_lines(chosen, number, pattern_list, is_directory, path):
    """Puts the lines of one list over those chosen so far, wherever they match."""
    start = len(pattern_list.directory)
    if start > 0:
        start = start + 1
    rest = path[start:]
    for index, pattern in enumerate(pattern_list.lines):
        if pattern is not None:
            for end in matched_ends(pattern, is_directory, rest):
                chosen[start + end] = (number, index + 1, pattern.keeps)


def lines_that_count(lists, is_directory, path):
    """For each entry at or above path that a line matches, by its length: list, line and whether it keeps."""
    chosen = {}
    # What counts more comes later and is put over the rest. Of the directories above one path the longer is the
    # deeper, and lists of one directory stay in the order in which they were added.
    for number in sorted(range(len(lists)), key=lambda n: len(lists[n].directory)):
        if lies_below(path, lists[number].directory):
            choose_lines(chosen, number, lists[number], is_directory, path)
    return chosen


def fate(lists, is_directory, path):
    chosen = lines_that_count(lists, is_directory, path)
    for end in entry_ends(path):
        if end in chosen and not chosen[end][2]:
            return [2, chosen[end][0], chosen[end][1]]
    if len(path) in chosen:
        return [1, chosen[len(path)][0], chosen[len(path)][1]]
    return [0]
