"""Solids for the tests."""

from itertools import product

TENT = ((0, 0, 0), (2, 0, 0), (0, 2, 0), (2, 2, 0), (1, 1, 3))
RING = ((0, 0), (1, 0), (2, 1), (2, 2), (1, 2), (0, 1))
CUBE = tuple(product((0, 1), repeat=3))
PRISM = ((0, 0, 0), (3, 0, 0), (0, 3, 0), (0, 0, 1), (3, 0, 1), (0, 3, 1))


def simplex(wide):
    return tuple(tuple(int(place == at) for place in range(wide)) for at in range(-1, wide))


def cross(wide):
    """The points with one number, 1 or -1, that is not 0."""
    return tuple(tuple(sign * (place == at) for place in range(wide)) for at in range(wide) for sign in (1, -1))


def board(wide):
    return tuple(product((0, 1), repeat=wide))


def joined(one, other):
    """The points of two solids, far from one another: each side has all points of the one, or of the other."""
    return (
        *((*point, *[0] * len(other[0]), 0) for point in one),
        *((*[0] * len(one[0]), *point, 1) for point in other),
    )


def curve(wide, many):
    """Points t, t * t, t * t * t .. for as many t: all of them corners."""
    return tuple(tuple(t ** power for power in range(1, wide + 1)) for t in range(-(many // 2), many - many // 2))


def led(points, rows, shift):
    return tuple(
        tuple(sum(one * two for one, two in zip(row, point)) + more for row, more in zip(rows, shift))
        for point in points
    )


def noise(seed, many, most):
    """So many integers from -most to most that look like no row of anything."""
    found = []
    state = seed
    while len(found) < many:
        state = (state * 6364136223846793005 + 1442695040888963407) % 2 ** 64
        great = 0
        for _ in range(4):
            state = (state * 6364136223846793005 + 1442695040888963407) % 2 ** 64
            great = great * 2 ** 60 + (state >> 4)
        found.append(great % (2 * most + 1) - most)
    return found


def noisy_rows(seed, many, wide, most):
    numbers = noise(seed, many * wide, most)
    return [numbers[at:at + wide] for at in range(0, many * wide, wide)]


# The sides that have the one square stand in a ring, and two that are opposite there share it alone.
SQUARES = joined(((1, 0), (0, 1), (-1, 0), (0, -1)), ((1, 0), (0, 1), (-1, 0), (0, -1)))

# As many points as a solid of each dimension may have.
MOST = {2: 16, 3: 16, 4: 16, 5: 14, 6: 12}

# Solids of each dimension, with sides of as few points as may be and of more.
SOLIDS = (
    simplex(2), RING, curve(2, 16),
    simplex(3), TENT, CUBE, PRISM, cross(3), curve(3, 8),
    simplex(4), cross(4), board(4), curve(4, 8), tuple((*point, 0) for point in TENT) + ((1, 1, 1, 5), (1, 1, 1, -5)),
    simplex(5), cross(5), curve(5, 8), SQUARES,
    tuple((*point, 0, 0) for point in CUBE) + ((0, 0, 0, 1, 0), (0, 0, 0, 0, 1), (1, 1, 1, 2, 2)),
    simplex(6), cross(6), curve(6, 9),
)

