"""The spindle of the 48 points, of dimension five and length six."""

from spindleway.checks import is_within
from spindleway.errors import BadNumber
from spindleway.likenesses import Likeness
from spindleway.longtables import BOTTOM, NEIGHBOURS, PLACES, SIDES, TOP
from spindleway.walks import steps_over

DIMENSION = 5
SIGNS = (1, -1)
# One plane for each kind of sides between the ends: likenesses lead it to those of all other sides of its kind.
KIND_PLANES = (
    ((2, 1, 1, 1, 15), 75),
    ((2, 1, 1, 4, -45), 135),
    ((6, 3, 3, 2, 60), 210),
    ((16, 8, 7, 5, 180), 540),
    ((4, 2, 2, 10, -135), 315),
)


class Long:
    """The spindle of the 48 points.

    Beside what the interface lists it keeps neighbours, for each side the numbers of its neighbours.
    """

    def __init__(self):
        self.points = tuple(sorted(_points()))
        self.sides = SIDES
        planes = _planes()
        self.planes = tuple([planes[place] for place in PLACES])
        self.neighbours = NEIGHBOURS
        self.top = TOP
        self.bottom = BOTTOM

    def __eq__(self, other):
        return isinstance(other, Long)

    def near(self, side):
        """The numbers of the neighbours of a side, ascending."""
        if not is_within(side, 0, len(self.sides) - 1):
            raise BadNumber("side")
        return self.neighbours[side]

    def given(self):
        """The five Likenesses that lead the points to one another, the exchange of the ends last."""
        places = list(range(DIMENSION))
        turning = [[-1 if place == turned else 1 for place in places] for turned in range(DIMENSION - 1)]
        given = [Likeness(places, signs) for signs in turning]
        given.append(Likeness((3, 2, 0, 1, 4), (1, 1, 1, 1, -1)))
        return tuple(given)

    def numbers(self):
        """For each side the fewest steps from the top."""
        return steps_over(self.neighbours, self.top)

    def walk(self):
        """The least of the walks of as few steps as there can be from top to bottom."""
        left = steps_over(self.neighbours, self.bottom)
        walk = [self.top]
        while walk[-1] != self.bottom:
            nearer = [side for side in self.neighbours[walk[-1]] if left[side] < left[walk[-1]]]
            walk.append(nearer[0])
        return tuple(walk)


def _points():
    """The 48 points, in no order."""
    upper = []
    for one in SIGNS:
        upper.extend([(18 * one, 0, 0, 0, 1), (0, 18 * one, 0, 0, 1), (0, 0, 45 * one, 0, 1), (0, 0, 0, 45 * one, 1)])
        for two in SIGNS:
            upper.extend([(15 * one, 15 * two, 0, 0, 1), (0, 0, 30 * one, 30 * two, 1)])
            upper.extend([(0, 10 * one, 40 * two, 0, 1), (10 * one, 0, 0, 40 * two, 1)])
    return upper + [_exchanged(point) for point in upper]


def _exchanged(row):
    """What the exchange leads a point, or the row of a plane, to."""
    a, b, c, e, last = row
    return e, c, a, b, -last


def _planes():
    """The planes of all sides, one kind after another, those of the upper and of the lower end last."""
    planes = []
    for row, number in KIND_PLANES:
        for _ in range(4):
            planes.extend([(each, number) for each in _turned_about(row)])
            row = _exchanged(row)
    return planes + [((0, 0, 0, 0, 1), 1), ((0, 0, 0, 0, -1), 1)]


def _turned_about(row):
    """The rows that come of a row if signs are turned about at some of the places but the last."""
    a, b, c, e, last = row
    return [
        (a * one, b * two, c * three, e * four, last)
        for one in SIGNS
        for two in SIGNS
        for three in SIGNS
        for four in SIGNS
    ]
