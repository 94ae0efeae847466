"""The least row of bytes that a machine makes."""


def places_before(machine):
    """For each place those from which a step leads there."""
    before = [[] for place in machine.steps]
    for place, steps in enumerate(machine.steps):
        for step in steps:
            before[step[1]].append(place)
    return before


def fewest_bytes_left(machine):
    """For each place from which the end can be reached, how many bytes that takes at the fewest."""
    before = places_before(machine)
    left = {machine.end: 0}
    reached = [machine.end]
    index = 0
    while index < len(reached):
        place = reached[index]
        index += 1
        for earlier in before[place]:
            if earlier not in left:
                left[earlier] = left[place] + 1
                reached.append(earlier)
    return left


def lowest_byte(byte_set):
    return (byte_set & -byte_set).bit_length() - 1


def steps_to(machine, places, left, many):
    """The steps from the places to such as have so many bytes left."""
    found = []
    for place in places:
        found.extend([step for step in machine.steps[place] if left.get(step[1]) == many])
    return found


def least_row(machine):
    """The row with the fewest bytes, of those with so few the first by its bytes; None if the machine makes none."""
    left = fewest_bytes_left(machine)
    lengths = [left[start] for start in machine.starts if start in left]
    if lengths == []:
        return None
    many = min(lengths)
    # All places that the bytes chosen so far lead to are gone on from at once, so that no lower byte is missed.
    places = machine.starts
    row = []
    while many > 0:
        many -= 1
        steps = steps_to(machine, places, left, many)
        byte = min([lowest_byte(step[0]) for step in steps])
        row.append(byte)
        places = sorted(set([step[1] for step in steps if (step[0] >> byte) & 1 == 1]))
    return row
