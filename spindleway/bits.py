"""Lots as integers: the bit at a place tells whether the point of this index is in the lot."""


def bits_of(lot):
    """The integer that has just the bits at the places that a lot tells."""
    bits = 0
    for at in lot:
        bits = bits | 1 << at
    return bits


def lot_of(bits):
    """The lot, ascending, of the places at which an integer has a bit."""
    return tuple([at for at in range(bits.bit_length()) if bits >> at & 1])


def has_all(bits, other):
    """Whether a lot has all points of another one."""
    return bits & other == other


def first_with_all(sides, lot):
    """The number of the first side that has all points of a lot, None if none has."""
    for number in range(len(sides)):
        if has_all(sides[number], lot):
            return number
    return None


def is_meet(lot, sides):
    """Whether some of the sides have all of a lot, and these have nothing else in common."""
    having = [side for side in sides if side & lot == lot]
    if not having:
        return False
    common = having[0]
    for side in having:
        common = common & side
    return common == lot


def are_alone(shared, sides):
    """Whether just two sides have all of what they share."""
    return len([side for side in sides if side & shared == shared]) == 2


def count_table():
    """How many bits each integer below 256 has."""
    counts = [0]
    for _ in range(8):
        counts = counts + [more + 1 for more in counts]
    return counts
