"""What a path is, and where its entries end."""

from passpatterns.signs import DOT, SLASH

MOST_PATH_BYTES = 256


def parted(row, sign):
    """The stretches of row before, between and behind the places where sign stands, the empty ones too."""
    stretches = []
    start = 0
    for place, byte in enumerate(row):
        if byte == sign:
            stretches.append(row[start:place])
            start = place + 1
    stretches.append(row[start:])
    return stretches


def is_part(part):
    return part not in ([], [DOT], [DOT, DOT]) and 0 not in part


def is_path(row):
    # The length goes first, so that a row of any length costs little.
    if len(row) > MOST_PATH_BYTES:
        return False
    return all([is_part(part) for part in parted(row, SLASH)])


def entry_ends(path):
    """How long the path of each entry is, from the first below the root to the path itself."""
    return [place for place, byte in enumerate(path) if byte == SLASH] + [len(path)]


def lies_below(path, directory):
    if directory == []:
        return True
    return path[:len(directory) + 1] == directory + [SLASH]
