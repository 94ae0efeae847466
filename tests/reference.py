"""The document's words once more, written as plainly as can be and with no thought of speed, to compare with."""

import itertools

SLASH = b"/"
NO_NAMES = (b"", b".", b"..")


def is_path(path):
    if len(path) > 256:
        return False
    return all(part not in NO_NAMES and 0 not in part for part in path.split(SLASH))


class Fault(Exception):
    pass


def read_class(text):
    """text begins behind the `[`; answers the bytes of the class and what stands behind its `]`."""
    negated = text.startswith(b"!")
    text = text[1:] if negated else text
    inside = set()
    stretches = 0
    while not text.startswith(b"]"):
        low, text = read_class_byte(text)
        high = low
        if text.startswith(b"-"):
            high, text = read_class_byte(text[1:])
        if high < low:
            raise Fault
        inside |= set(range(low, high + 1))
        stretches += 1
    if stretches == 0:
        raise Fault
    return (set(range(256)) - inside if negated else inside), text[1:]


def read_class_byte(text):
    if text[:1] in (b"", b"]", b"-") or text == b"\\":
        raise Fault
    if text.startswith(b"\\"):
        return text[1], text[2:]
    return text[0], text[1:]


def read_part(text):
    if text == b"":
        raise Fault
    if text == b"**":
        return "**"
    tokens = []
    while text:
        first, text = text[:1], text[1:]
        if first == b"*":
            tokens.append("*")
        elif first == b"?":
            tokens.append(set(range(256)))
        elif first == b"[":
            inside, text = read_class(text)
            tokens.append(inside)
        elif first == b"\\":
            if not text:
                raise Fault
            tokens.append({text[0]})
            text = text[1:]
        else:
            tokens.append({first[0]})
    return tokens


class Pattern:
    def __init__(self, line):
        self.keeps = line.startswith(b"!")
        line = line[1:] if self.keeps else line
        self.for_directories = line.endswith(SLASH)
        line = line[:-1] if self.for_directories else line
        self.anchored = SLASH in line
        if self.anchored:
            line = line[1:] if line.startswith(SLASH) else line
        else:
            line = b"**/" + line
        self.parts = [read_part(part) for part in line.split(SLASH)]

    def matches(self, path, is_directory):
        if self.for_directories and not is_directory:
            return False
        return makes(self.parts, path.split(SLASH))


def makes(parts, names):
    if not parts:
        return not names
    if parts[0] == "**":
        fewest = 1 if len(parts) == 1 else 0
        return any(makes(parts[1:], names[taken:]) for taken in range(fewest, len(names) + 1))
    return bool(names) and makes_name(parts[0], names[0]) and makes(parts[1:], names[1:])


def makes_name(tokens, name):
    if not tokens:
        return not name
    if tokens[0] == "*":
        return any(makes_name(tokens[1:], name[taken:]) for taken in range(len(name) + 1))
    return bool(name) and name[0] in tokens[0] and makes_name(tokens[1:], name[1:])


def read_lines(text):
    """The patterns by their lines' numbers; the first fault's number is what the Fault holds."""
    patterns = {}
    for number, line in enumerate(text.split(b"\n"), start=1):
        if line != b"" and not line.startswith(b"#"):
            try:
                patterns[number] = Pattern(line)
            except Fault:
                raise Fault(number) from None
    return patterns


def fits(line, path, is_directory):
    try:
        patterns = read_lines(line)
    except Fault:
        return [-1]
    if patterns == {} or b"\n" in line or len(line) > 128:
        return [-1]
    if not is_path(path):
        return [-2]
    return [int(patterns[1].matches(path, is_directory))]


def least(text):
    try:
        patterns = list(read_lines(text).values())
    except Fault:
        return [-1]
    if len(text) > 64 or any(len(line) > 24 for line in text.split(b"\n")):
        return [-1]
    if len(patterns) not in (1, 2) or any(pattern.keeps for pattern in patterns):
        return [-1]
    path = least_by_walking(patterns)
    return [0] if path is None else [1, len(path)] + list(path)


def lowest_bytes(patterns):
    """Of the bytes that no piece of the patterns tells apart the lowest one: a least path has no others."""
    tokens = [token for pattern in patterns for part in pattern.parts if part != "**" for token in part if token != "*"]
    lowest = {}
    for byte in range(1, 256):
        lowest.setdefault((byte if byte in b"./" else 0, *[byte in token for token in tokens]), byte)
    return sorted(lowest.values())


def least_by_trying(patterns, most):
    """The least path of at most so many bytes, found by trying all of them; None if there is none."""
    alphabet = lowest_bytes(patterns)
    for length in range(1, most + 1):
        for numbers in itertools.product(alphabet, repeat=length):
            path = bytes(numbers)
            if is_path(path) and all(pattern.matches(path, True) for pattern in patterns):
                return path
    return None


def stars_passed(part, index, place):
    """The place in the part, and those behind the stars that stand there. (Of `**`: 0 where a name begins, 1 in one.)"""
    places = {(index, place)}
    while place < len(part) and part[place] == "*":
        place += 1
        places.add((index, place))
    return places


def part_begins(parts, index):
    if parts[index] != "**":
        return stars_passed(parts[index], index, 0)
    return {(index, 0)} | (part_begins(parts, index + 1) if index + 1 < len(parts) else set())


def places_behind(parts, places, byte):
    behind = set()
    for index, place in places:
        part = parts[index]
        if byte == SLASH[0]:
            if part == "**":
                behind |= part_begins(parts, index) if place == 1 else set()
            elif place == len(part) and index + 1 < len(parts):
                behind |= part_begins(parts, index + 1)
        elif part == "**":
            behind.add((index, 1))
        elif place < len(part) and part[place] == "*":
            behind |= stars_passed(part, index, place)
        elif place < len(part) and byte in part[place]:
            behind |= stars_passed(part, index, place + 1)
    return frozenset(behind)


def is_made(parts, places):
    return (len(parts) - 1, 1 if parts[-1] == "**" else len(parts[-1])) in places


def least_by_walking(patterns):
    """The least path, found by going through all rows of bytes in their order, but once for all that go on alike."""
    alphabet = lowest_bytes(patterns)
    rows = [(b"", [frozenset(part_begins(pattern.parts, 0)) for pattern in patterns])]
    met = set()
    for row, sets in rows:
        for byte in alphabet:
            if byte == SLASH[0] and row.split(SLASH)[-1] in NO_NAMES:
                continue
            longer = row + bytes([byte])
            name = longer.split(SLASH)[-1]
            behind = [places_behind(pattern.parts, places, byte) for pattern, places in zip(patterns, sets)]
            if name not in NO_NAMES and all(is_made(p.parts, places) for p, places in zip(patterns, behind)):
                return longer if len(longer) <= 256 else None
            alike = (name if name in NO_NAMES else None, *behind)
            if all(behind) and alike not in met:
                met.add(alike)
                rows.append((longer, behind))
    return None


class Object:
    def __init__(self):
        self.lists = []

    def add(self, directory, text):
        if directory != b"" and not is_path(directory):
            return [-1]
        if len(text) > 512:
            return [-2]
        try:
            patterns = read_lines(text)
        except Fault as fault:
            return [-3, fault.args[0]]
        after = self.lists + [(directory, text, patterns)]
        size = sum(len(d) + len(t) for d, t, p in after)
        if len(after) > 16 or sum(len(p) for d, t, p in after) > 64 or size > 2048:
            return [-4]
        self.lists = after
        return [len(after) - 1]

    def drop(self, number):
        if number >= len(self.lists):
            return [-1]
        self.lists = self.lists[:number] + self.lists[number + 1:]
        return [0]

    def count(self):
        return [len(self.lists)]

    def line_that_counts_most(self, path, is_directory):
        best = None
        for number, (directory, text, patterns) in enumerate(self.lists):
            above = directory + SLASH if directory else b""
            if path.startswith(above):
                depth = above.count(SLASH)
                for line, pattern in patterns.items():
                    if pattern.matches(path[len(above):], is_directory):
                        rank = (depth, number, line, pattern.keeps)
                        best = rank if best is None else max(best, rank)
        return best

    def becomes(self, path, is_directory):
        if not is_path(path):
            return [-1]
        names = path.split(SLASH)
        best = None
        for many in range(1, len(names) + 1):
            entry = SLASH.join(names[:many])
            best = self.line_that_counts_most(entry, is_directory or many < len(names))
            if best is not None and not best[3]:
                return [2, best[1], best[2]]
        return [0] if best is None else [1, best[1], best[2]]

    def rule(self, number, line):
        if number >= len(self.lists):
            return [-1]
        directory, text, patterns = self.lists[number]
        if not 1 <= line <= len(text.split(b"\n")):
            return [-1]
        if line not in patterns:
            return [0]
        pattern = patterns[line]
        return [1 + 2 * pattern.keeps + 4 * pattern.for_directories + 8 * pattern.anchored]
