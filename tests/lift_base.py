"""Spindles to lift, and what a lift is by its definition alone."""

from functools import cache

from spindleway.pulls import is_plain, made_plain
from spindleway.ridges import near
from spindleway.solids import Solid
from spindleway.spindles import Spindle
from tests.base import ODD_VALUES, span
from tests.samples import MOST, cross, curve, noise
from tests.spindle_samples import (
    BENT, CROSSED, EDGES, ELEVEN, FLAT, FOUR, KITE, MIXED, NINE, PRISM, ROOF, SEVENTEEN, SIXTEEN, TURNED_ONE, ends,
    flattened, great, negated,
)

NO_SPINDLES = ODD_VALUES + (3, KITE, Solid(KITE), str(Solid(KITE)), [KITE])
NO_NUMBERS = ODD_VALUES + ([], [0], (1,), "0", 0.0)

# Plain and others, of dimension three to five, with ends of as few points as may be and of more.
SOME = (
    KITE, CROSSED, ROOF, PRISM, TURNED_ONE, ROOF[::-1], ends(curve(2, 5), negated(curve(2, 4))), NINE, FOUR, MIXED,
    SIXTEEN, SEVENTEEN, EDGES, ELEVEN, BENT, ends(flattened(cross(2)), negated(flattened(cross(2)))),
)
# As many points as may be lifted in each dimension, so that the lifted ones have as many as may be.
FULL = (
    ends(curve(2, 8), negated(curve(2, 7))), ends(curve(2, 3), negated(curve(2, 12))),
    ends(curve(3, 7), negated(curve(3, 6))), ends(curve(3, 4), negated(curve(3, 9))), ends(cross(3), curve(3, 7)),
    ends(curve(4, 6), negated(curve(4, 5))), ends(curve(4, 5), negated(curve(4, 6))),
)


@cache
def spindles():
    return tuple(Spindle(points) for points in (*SOME, *FULL))


@cache
def plain_ones():
    """Plain spindles, each also in another order and with great integers."""
    found = []
    for seed, points in enumerate((*SOME, *FULL)):
        for each in (points, points[2:] + points[:2], great(points, seed, 10 ** (3 + 17 * (seed % 4)))):
            spindle = made_plain(Spindle(each))
            if max(abs(number) for point in spindle.points for number in point) < 10 ** 60:
                found.append(spindle)
    return tuple(found)


def drawn(spindle, point):
    """The indexes of the points of the end that does not have the point."""
    last = spindle.points[point][-1]
    return [at for at, each in enumerate(spindle.points) if each[-1] != last]


def lifted_by_definition(spindle, point, heights, by):
    """The points of what is lifted."""
    height_of = dict(zip(drawn(spindle, point), heights))
    found = []
    for at, each in enumerate(spindle.points):
        more = by if at == point else height_of.get(at, 0)
        found.append((*each[:-1], more, each[-1]))
    return tuple(found) + ((*spindle.points[point][:-1], -by, spindle.points[point][-1]),)


def will_do(spindle, point, heights):
    """Whether the points of the drawn end with their heights span as many dimensions as the spindle has."""
    points = [(*spindle.points[at], height) for at, height in zip(drawn(spindle, point), heights)]
    return span(points) == spindle.dimension


def takers(spindle, point, grown):
    """For each side of what is lifted all sides of the spindle that take it."""
    copies = {point, len(spindle.points)}
    found = []
    for lot in grown.solid.sides:
        needed = set(lot) - copies
        if copies <= set(lot):
            needed.add(point)
        found.append([number for number, side in enumerate(spindle.solid.sides) if needed <= set(side)])
    return found


def denials(spindle, point, grown):
    """All sides of what is lifted that no side takes, and all neighbours of its drawn end that another one takes."""
    rows = takers(spindle, point, grown)
    end = spindle.solid.sides.index(tuple(drawn(spindle, point)))
    grown_end = grown.solid.sides.index(tuple(drawn(spindle, point)))
    strays = [side for side, row in enumerate(rows) if not row]
    shut = [side for side in near(grown.solid, grown_end) if rows[side] and rows[side] != [end]]
    return strays, shut


def lies_well(spindle, point, heights, by):
    grown = Spindle(lifted_by_definition(spindle, point, heights, by))
    return denials(spindle, point, grown) == ([], [])


def least_by_trial(spindle, point, heights):
    """The least by that lies well: each greater one lies well, too, so it is found by halving."""
    most = 1
    while not lies_well(spindle, point, heights, most):
        most *= 2
    least = most // 2
    while most - least > 1:
        middle = (least + most) // 2
        if lies_well(spindle, point, heights, middle):
            most = middle
        else:
            least = middle
    return most


def some_heights(spindle, point, seed):
    """Heights that will do, small ones and great ones, some of them alike; none where the drawn end is too small."""
    many = len(drawn(spindle, point))
    found = [[0] * (many - 1) + [1], [at * at for at in range(many)], noise(seed, many, 2), noise(seed + 1, many, 40)]
    found.append(noise(seed + 2, many, 10 ** 59))
    return [heights for heights in found if will_do(spindle, point, heights)]


def can_be_lifted(spindle):
    return spindle.dimension < 6 and len(spindle.points) < MOST[spindle.dimension + 1]


def refused_lifts():
    """What tells no lift: the class of the error, its fields, and the four values, in the order of the errors."""
    kite, six = Spindle(KITE), Spindle(ends(curve(5, 6), negated(curve(5, 6))))
    full = Spindle(ends(curve(2, 8), negated(curve(2, 8))))
    flat = Spindle(ends(*FLAT))
    right = ((0, [0, 0, 0, 1], 1), (3, [0, 0, 1], 1))
    for value in NO_SPINDLES:
        yield "BadSpindle", {"part": "spindle"}, (value, *right[0])
        yield "BadSpindle", {"part": "spindle"}, (value, None, None, None)
    for value in NO_NUMBERS + (-1, 7, 10 ** 60):
        yield "BadNumber", {"part": "point"}, (kite, value, *right[0][1:])
        yield "BadNumber", {"part": "point"}, (kite, value, None, 0)
        yield "BadNumber", {"part": "point"}, (six, value if value != 7 else 12, [], 1)
    for value in NO_NUMBERS + (0, (0, 0, 0), [0, 0, 0, 0, 1], [0, 0, 0, None], [0, 0, 0, True], [0, 0, 0, [1]], [0] * 7):
        yield "BadNumber", {"part": "heights"}, (kite, 0, value, 1)
        yield "BadNumber", {"part": "heights"}, (kite, 2, value, 0)
        yield "BadNumber", {"part": "heights"}, (six, 0, value, None)
        yield "BadNumber", {"part": "heights"}, (full, 15, value, -1)
    yield "BadNumber", {"part": "heights"}, (kite, 3, [0, 0, 0, 1], 1)
    for point, heights, _ in right:
        for value in NO_NUMBERS + (0, -1, -(10 ** 60)):
            yield "BadNumber", {"part": "by"}, (kite, point, heights, value)
            yield "BadNumber", {"part": "by"}, (kite, point, [0] * len(heights), value)
            yield "BadNumber", {"part": "by"}, (six, point, [0] * 6, value)
            yield "BadNumber", {"part": "by"}, (full, point, [0] * 8, value)
    for point in range(12):
        for heights in ([0, 1, 4, 9, 16, 25], [0] * 6):
            yield "Misfit", {"part": "dimension"}, (six, point, heights, 1)
    for point in (0, 7, 8, 15):
        for heights in ([at * at * at for at in range(8)], [0] * 8):
            yield "TooMany", {"what": "points", "most": 16}, (full, point, heights, 1)
    for points, most in ((ends(curve(3, 7), negated(curve(3, 7))), 14), (ends(curve(4, 6), negated(curve(4, 6))), 12)):
        spindle = Spindle(points)
        for heights in ([0] * (most // 2), [at * at * at for at in range(most // 2)]):
            yield "TooMany", {"what": "points", "most": most}, (spindle, 0, heights, 1)
    for spindle, point, heights in (
        (kite, 0, [0, 0, 0, 0]), (kite, 2, (7, 7, 7, 7)), (kite, 1, [2, -1, -2, 1]), (kite, 0, [12, 11, 8, 9]),
        (kite, 3, [0, 0, 1]), (kite, 6, [5, -7, 10 ** 59]), (flat, 0, [0, 1]), (flat, 3, [5, -(10 ** 59)]),
    ):
        yield "Misfit", {"part": "heights"}, (spindle, point, heights, 1)


assert all(is_plain(spindle) for spindle in plain_ones())
