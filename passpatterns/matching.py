"""Which entries along a path a row of cells makes.

All ways through the cells are gone at once: a whole number holds where they stand. Its bit k is 1 if a way stands
before cell k; the bit behind that of the last cell is 1 if a way is through.
"""

from passpatterns.signs import SLASH


class Matcher:
    def __init__(self, cells):
        self.cells = cells
        self.optional = places_of([cell.optional for cell in cells])
        # A byte's steps are worked out when it is first met: few of the 256 ever are.
        self.steps = {}

    def entered(self, fresh):
        """The places reached by coming to the fresh ones: optional cells are passed over too."""
        reached = fresh
        while (fresh & self.optional) != 0:
            fresh = (fresh & self.optional) << 1
            reached = reached | fresh
        return reached

    def steps_of(self, byte):
        """The places from which the byte lets a way stay, and those from which it lets one move on."""
        if byte not in self.steps:
            stays = places_of([(cell.stays >> byte) & 1 == 1 for cell in self.cells])
            moves = places_of([(cell.moves >> byte) & 1 == 1 for cell in self.cells])
            self.steps[byte] = (stays, moves)
        return self.steps[byte]

    def after(self, places, byte):
        # Who stays in an optional cell has begun it and may not pass over it any more: only who moves enters anew.
        steps = self.steps_of(byte)
        return (places & steps[0]) | self.entered((places & steps[1]) << 1)

    def is_through(self, places):
        return (places >> len(self.cells)) & 1 == 1

    def matched_ends(self, path):
        """How long the path of each entry is, at or above this path, that the cells make as a whole."""
        ends = []
        places = self.entered(1)
        for place, byte in enumerate(path):
            if places == 0:
                return ends
            if byte == SLASH and self.is_through(places):
                ends.append(place)
            places = self.after(places, byte)
        if self.is_through(places):
            ends.append(len(path))
        return ends


def places_of(marks):
    """The whole number whose bit k is 1 where mark k is True."""
    places = 0
    for place, mark in enumerate(marks):
        if mark:
            places = places | (1 << place)
    return places
