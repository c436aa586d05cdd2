"""The spindle of the 48 points, of dimension five and length six."""

from spindleway.algebra import product_of
from spindleway.bits import are_alone, bits_of
from spindleway.checks import is_within
from spindleway.errors import BadNumber
from spindleway.likenesses import Likeness, led_indexes, led_lots
from spindleway.walks import steps_over, traced_from

DIMENSION = 5
TOP_PLANE = ((0, 0, 0, 0, 1), 1)
BOTTOM_PLANE = ((0, 0, 0, 0, -1), 1)
# One plane for each kind of sides between the ends: likenesses lead it to those of all other sides of its kind.
KIND_PLANES = (
    ((2, 1, 1, 1, 15), 75),
    ((2, 1, 1, 4, -45), 135),
    ((6, 3, 3, 2, 60), 210),
    ((16, 8, 7, 5, 180), 540),
    ((4, 2, 2, 10, -135), 315),
)


class Long:
    """The spindle of the 48 points.

    Beside what the interface lists it keeps neighbours, for each side the numbers of its neighbours.
    """

    def __init__(self):
        self.points = tuple(sorted(_points()))
        given = self.given()
        leads = [led_indexes(self.points, each) for each in given]
        planes = {_held(self.points, plane): plane for plane in [TOP_PLANE, *KIND_PLANES]}
        lanes = _lanes_from(list(planes), leads)
        bits = {lot: bits_of(lot) for lot in lanes}
        near_lots = {lot: _near_to(lot, bits) for lot in planes}
        for first in list(planes):
            _spread(first, given, lanes, planes, near_lots)
        self.sides = tuple(sorted(lanes))
        self.planes = tuple([planes[lot] for lot in self.sides])
        number_of = {self.sides[number]: number for number in range(len(self.sides))}
        self.neighbours = tuple([tuple([number_of[lot] for lot in near_lots[side]]) for side in self.sides])
        self.top = self.planes.index(TOP_PLANE)
        self.bottom = self.planes.index(BOTTOM_PLANE)

    def __eq__(self, other):
        return isinstance(other, Long)

    def near(self, side):
        """The numbers of the neighbours of a side, ascending."""
        if not is_within(side, 0, len(self.sides) - 1):
            raise BadNumber("side")
        return self.neighbours[side]

    def given(self):
        """The five Likenesses that lead the points to one another, the exchange of the ends last."""
        places = list(range(DIMENSION))
        turning = [[-1 if place == turned else 1 for place in places] for turned in range(DIMENSION - 1)]
        given = [Likeness(places, signs) for signs in turning]
        given.append(Likeness((3, 2, 0, 1, 4), (1, 1, 1, 1, -1)))
        return tuple(given)

    def numbers(self):
        """For each side the fewest steps from the top."""
        return steps_over(self.neighbours, self.top)

    def walk(self):
        """The least of the walks of as few steps as there can be from top to bottom."""
        left = steps_over(self.neighbours, self.bottom)
        walk = [self.top]
        while walk[-1] != self.bottom:
            nearer = [side for side in self.neighbours[walk[-1]] if left[side] < left[walk[-1]]]
            walk.append(nearer[0])
        return tuple(walk)


def _points():
    """The 48 points, in no order."""
    upper = []
    for one in (1, -1):
        upper.extend([(18 * one, 0, 0, 0, 1), (0, 18 * one, 0, 0, 1), (0, 0, 45 * one, 0, 1), (0, 0, 0, 45 * one, 1)])
        for two in (1, -1):
            upper.extend([(15 * one, 15 * two, 0, 0, 1), (0, 0, 30 * one, 30 * two, 1)])
            upper.extend([(0, 10 * one, 40 * two, 0, 1), (10 * one, 0, 0, 40 * two, 1)])
    return upper + [(e, c, a, b, -1) for a, b, c, e, _ in upper]


def _held(points, plane):
    """The lot of the points that a plane holds."""
    row, number = plane
    return tuple([at for at in range(len(points)) if product_of(row, points[at]) == number])


def _lanes_from(lots, leads):
    """All lots to which some lots are led, over and over, each with those to which each lead leads it."""
    lanes = {}
    front = lots
    while front:
        for lot in front:
            lanes[lot] = led_lots(lot, leads)
        front = [lot for lot in sorted({led for each in front for led in lanes[each]}) if lot not in lanes]
    return lanes


def _near_to(side, bits):
    """The sides, ascending, that have a ridge in common with a side; bits has those of each side."""
    sides = list(bits.values())
    shared = {other: bits[side] & bits[other] for other in bits if other != side}
    # Fewer points cannot span enough, and most sides end here.
    close = [other for other in shared if f"{shared[other]:b}".count("1") >= DIMENSION - 1]
    # No point of a side of so few points lies in the span of its other ones.
    return sorted([
        other
        for other in close
        if len(side) == DIMENSION or len(other) == DIMENSION or are_alone(shared[other], sides)
    ])


def _spread(first, given, lanes, planes, near_lots):
    """Lead the plane and the neighbours of a first side to all sides of its kind."""
    ahead_of = traced_from(lanes, first)
    for lot in ahead_of:
        ahead = ahead_of[lot]
        if lot != first:
            at = lanes[ahead].index(lot)
            row, number = planes[ahead]
            planes[lot] = (given[at].led(row), number)
            near_lots[lot] = sorted([lanes[each][at] for each in near_lots[ahead]])
