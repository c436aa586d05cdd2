"""Steps and walks over sides, told by the neighbours of each side, and likewise paths over points.

The callers have checked the numbers of the sides, but not the values that is_walk, is_numbering and tells_apart take.
"""

from spindleway.checks import are_integers, is_list, is_within


def traced_from(lanes, start):
    """All places to which lanes lead from start, the nearest first, each with the place ahead of it.

    lanes has for each place those to which one step leads; ahead of start stands start itself.
    """
    ahead_of = {start: start}
    front = [start]
    while front:
        beyond = []
        for place in front:
            for reached in lanes[place]:
                if reached not in ahead_of:
                    ahead_of[reached] = place
                    beyond.append(reached)
        front = beyond
    return ahead_of


def way_to(ahead_of, last):
    """A way of as few steps as there are to a place that was traced."""
    way = [last]
    while ahead_of[way[-1]] != way[-1]:
        way.append(ahead_of[way[-1]])
    return way[::-1]


def steps_over(neighbours, start):
    """For each side, in order, the fewest steps from a side."""
    ahead_of = traced_from(neighbours, start)
    steps = {start: 0}
    for side in ahead_of:
        if side != start:
            steps[side] = steps[ahead_of[side]] + 1
    return tuple([steps[side] for side in range(len(neighbours))])


def pieces_over(lanes):
    """All places in pieces, each an ascending tuple, ascending; within a piece lanes lead from each to each other."""
    pieces = []
    placed = {}
    for place in sorted(lanes):
        if place not in placed:
            piece = tuple(sorted(traced_from(lanes, place)))
            pieces.append(piece)
            for each in piece:
                placed[each] = True
    return tuple(pieces)


def is_walk(neighbours, value, one, other):
    """Whether any value is a walk from a side to another one."""
    if not is_list(value, 1, None):
        return False
    if not all([is_within(side, 0, len(neighbours) - 1) for side in value]):
        return False
    if value[0] != one or value[-1] != other:
        return False
    return all([value[at] in neighbours[value[at - 1]] for at in range(1, len(value))])


def is_numbering(neighbours, value):
    """Whether any value has an integer for each side, and those of neighbours differ by one at most."""
    if not are_integers(value) or len(value) != len(neighbours):
        return False
    return all([
        abs(value[side] - value[other]) <= 1
        for side in range(len(neighbours))
        for other in neighbours[side]
    ])


def tells_apart(lanes, one, other, walk, numbers):
    """Whether any two values are a walk and a numbering that tell the same of how far two places are apart."""
    if not is_walk(lanes, walk, one, other) or not is_numbering(lanes, numbers):
        return False
    return numbers[other] - numbers[one] == len(walk) - 1
