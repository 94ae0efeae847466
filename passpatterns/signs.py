"""The bytes that have a meaning in paths, lines and patterns."""

LINE_FEED = 10
BANG = 33
HASH = 35
STAR = 42
DASH = 45
DOT = 46
SLASH = 47
QUESTION = 63
OPEN_BRACKET = 91
BACKSLASH = 92
CLOSE_BRACKET = 93
