"""The error by which the reading of a line ends."""


class LineFault(ValueError):
    """The line is neither a pattern nor one that says nothing."""
