"""The document's words once more, written as plainly as can be and with no thought of speed, to compare with."""

SLASH = b"/"


def is_path(path):
    if len(path) > 256:
        return False
    return all(part not in (b"", b".", b"..") and 0 not in part for part in path.split(SLASH))


class Fault(Exception):
    pass


def read_class(text):
    """text begins behind the `[`; answers the bytes of the class and what stands behind its `]`."""
    negated = text.startswith(b"!")
    text = text[1:] if negated else text
    inside = set()
    stretches = 0
    while not text.startswith(b"]"):
        low, text = read_class_byte(text)
        high = low
        if text.startswith(b"-"):
            high, text = read_class_byte(text[1:])
        if high < low:
            raise Fault
        inside |= set(range(low, high + 1))
        stretches += 1
    if stretches == 0:
        raise Fault
    return (set(range(256)) - inside if negated else inside), text[1:]


def read_class_byte(text):
    if text[:1] in (b"", b"]", b"-") or text == b"\\":
        raise Fault
    if text.startswith(b"\\"):
        return text[1], text[2:]
    return text[0], text[1:]


def read_part(text):
    if text == b"":
        raise Fault
    if text == b"**":
        return "**"
    tokens = []
    while text:
        first, text = text[:1], text[1:]
        if first == b"*":
            tokens.append("*")
        elif first == b"?":
            tokens.append(set(range(256)))
        elif first == b"[":
            inside, text = read_class(text)
            tokens.append(inside)
        elif first == b"\\":
            if not text:
                raise Fault
            tokens.append({text[0]})
            text = text[1:]
        else:
            tokens.append({first[0]})
    return tokens


class Pattern:
    def __init__(self, line):
        self.keeps = line.startswith(b"!")
        line = line[1:] if self.keeps else line
        self.for_directories = line.endswith(SLASH)
        line = line[:-1] if self.for_directories else line
        if SLASH in line:
            line = line[1:] if line.startswith(SLASH) else line
        else:
            line = b"**/" + line
        self.parts = [read_part(part) for part in line.split(SLASH)]

    def matches(self, path, is_directory):
        if self.for_directories and not is_directory:
            return False
        return makes(self.parts, path.split(SLASH))


def makes(parts, names):
    if not parts:
        return not names
    if parts[0] == "**":
        fewest = 1 if len(parts) == 1 else 0
        return any(makes(parts[1:], names[taken:]) for taken in range(fewest, len(names) + 1))
    return bool(names) and makes_name(parts[0], names[0]) and makes(parts[1:], names[1:])


def makes_name(tokens, name):
    if not tokens:
        return not name
    if tokens[0] == "*":
        return any(makes_name(tokens[1:], name[taken:]) for taken in range(len(name) + 1))
    return bool(name) and name[0] in tokens[0] and makes_name(tokens[1:], name[1:])


class Object:
    def __init__(self):
        self.lists = []

    def add(self, directory, text):
        if directory != b"" and not is_path(directory):
            return [-1]
        if len(text) > 512:
            return [-2]
        patterns = {}
        for number, line in enumerate(text.split(b"\n"), start=1):
            if line != b"" and not line.startswith(b"#"):
                try:
                    patterns[number] = Pattern(line)
                except Fault:
                    return [-3, number]
        after = self.lists + [(directory, text, patterns)]
        size = sum(len(d) + len(t) for d, t, p in after)
        if len(after) > 16 or sum(len(p) for d, t, p in after) > 64 or size > 2048:
            return [-4]
        self.lists = after
        return [len(after) - 1]

    def drop(self, number):
        if number >= len(self.lists):
            return [-1]
        self.lists = self.lists[:number] + self.lists[number + 1:]
        return [0]

    def count(self):
        return [len(self.lists)]

    def line_that_counts_most(self, path, is_directory):
        best = None
        for number, (directory, text, patterns) in enumerate(self.lists):
            above = directory + SLASH if directory else b""
            if path.startswith(above):
                depth = above.count(SLASH)
                for line, pattern in patterns.items():
                    if pattern.matches(path[len(above):], is_directory):
                        rank = (depth, number, line, pattern.keeps)
                        best = rank if best is None else max(best, rank)
        return best

    def becomes(self, path, is_directory):
        if not is_path(path):
            return [-1]
        names = path.split(SLASH)
        best = None
        for many in range(1, len(names) + 1):
            entry = SLASH.join(names[:many])
            best = self.line_that_counts_most(entry, is_directory or many < len(names))
            if best is not None and not best[3]:
                return [2, best[1], best[2]]
        return [0] if best is None else [1, best[1], best[2]]
