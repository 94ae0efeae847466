"""Machines: what makes rows of bytes, place by place, so that two can be made into one that makes what both make."""

from passpatterns.cells import part_bytes
from passpatterns.signs import DOT, SLASH

PART_BEGINS = 0
ONE_DOT = 1
TWO_DOTS = 2
WITHIN_PART = 3


class Machine:
    """It makes the bytes along steps that lead from one of its starts to its end.

    steps[place] holds the steps from that place, each a set of bytes and the place to which any of them leads.
    """

    def __init__(self, starts, end, steps):
        self.starts = starts
        self.end = end
        self.steps = steps


class Pairs:
    """Numbers pairs of places in the order in which they are met."""

    def __init__(self):
        self.met = []
        self.numbers = {}

    def number_of(self, first, second):
        pair = (first, second)
        if pair not in self.numbers:
            self.numbers[pair] = len(self.met)
            self.met.append(pair)
        return self.numbers[pair]


def path_machine():
    """Makes every path, and no row that has a part of no bytes, a part `.` or a part `..`; it knows no length."""
    dot = 1 << DOT
    no_dot = part_bytes() ^ dot
    steps = [
        [(dot, ONE_DOT), (no_dot, WITHIN_PART)],
        [(dot, TWO_DOTS), (no_dot, WITHIN_PART)],
        [(part_bytes(), WITHIN_PART)],
        [(part_bytes(), WITHIN_PART), (1 << SLASH, PART_BEGINS)],
    ]
    return Machine([PART_BEGINS], WITHIN_PART, steps)


def places_in(places):
    """The places whose bits are 1, as a list."""
    return [place for place in range(places.bit_length()) if (places >> place) & 1 == 1]


def pattern_machine(matcher):
    """Makes what the matcher's cells make; its places are those before the cells and the one behind the last."""
    steps = []
    for place, cell in enumerate(matcher.cells):
        onward = [(cell.moves, target) for target in places_in(matcher.entered(1 << (place + 1)))]
        steps.append([(cell.stays, place)] + onward)
    steps.append([])
    return Machine(places_in(matcher.entered(1)), len(matcher.cells), steps)


def shared_steps(first_steps, second_steps, pairs):
    shared = []
    for step in first_steps:
        for other in second_steps:
            byte_set = step[0] & other[0]
            if byte_set != 0:
                shared.append((byte_set, pairs.number_of(step[1], other[1])))
    return shared


def both(first, second):
    """The machine that makes what both make; of the pairs of places it has only those that its starts lead to."""
    pairs = Pairs()
    end = pairs.number_of(first.end, second.end)
    starts = []
    for start in first.starts:
        for other in second.starts:
            starts.append(pairs.number_of(start, other))
    steps = []
    while len(steps) < len(pairs.met):
        pair = pairs.met[len(steps)]
        steps.append(shared_steps(first.steps[pair[0]], second.steps[pair[1]], pairs))
    return Machine(starts, end, steps)
