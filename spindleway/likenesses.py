"""Likenesses, which exchange places and turn signs about, and what they make of points and lots."""

from spindleway.checks import are_integers, are_points, is_list, is_lot, is_point, is_within
from spindleway.errors import BadLikeness, BadLot, BadNumber, BadPoint, Misfit, TooMany
from spindleway.walks import pieces_over

LEAST_WIDE = 2
MOST_WIDE = 6
MOST_POINTS = 48
MOST_GIVEN = 10
MOST_MADE = 64
MOST_LOTS = 400


class Likeness:
    """It leads a point to the one that has, at each place k, signs[k] times what is at the place places[k]."""

    def __init__(self, places, signs):
        if not _are_places(places):
            raise BadLikeness("places")
        if not is_point(signs, len(places)) or not all([sign in (1, -1) for sign in signs]):
            raise BadLikeness("signs")
        self.places = tuple(places)
        self.signs = tuple(signs)
        self.wide = len(self.places)

    def __eq__(self, other):
        return isinstance(other, Likeness) and self.places == other.places and self.signs == other.signs

    def led(self, point):
        """What it leads a point to."""
        if not is_point(point, self.wide):
            raise BadPoint("point")
        return tuple([sign * point[place] for place, sign in zip(self.places, self.signs)])

    def then(self, other):
        """The Likeness that leads as first this one and then the other one does."""
        if not isinstance(other, Likeness):
            raise BadLikeness("other")
        if other.wide != self.wide:
            raise Misfit("wide")
        places, signs = _one_then((self.places, self.signs), (other.places, other.signs))
        return Likeness(places, signs)

    def back(self):
        """The Likeness that leads back what this one leads."""
        places = [self.places.index(place) for place in range(self.wide)]
        return Likeness(places, [self.signs[place] for place in places])

    @staticmethod
    def same(wide):
        """The Likeness that leads each point of so many integers to itself."""
        if not is_within(wide, LEAST_WIDE, MOST_WIDE):
            raise BadNumber("wide")
        return Likeness(list(range(wide)), [1] * wide)


def _are_places(value):
    if not is_list(value, LEAST_WIDE, MOST_WIDE) or not are_integers(value):
        return False
    return sorted(value) == list(range(len(value)))


def likenesses_of(points, given):
    """All Likenesses that the given ones make, each once, ascending by their places and signs."""
    _check_points_and_given(points, given)
    _leads_of(points, given)
    return tuple([Likeness(places, signs) for places, signs in _made_of(given, len(points[0]))])


def kinds_of(points, given, lots):
    """The lots by kinds: a kind has all to which what the given Likenesses make leads one of them."""
    _check_points_and_given(points, given)
    _check_lots(points, lots)
    leads = _leads_of(points, given)
    # The lots are led by the given ones alone; the others are made only to see that they are not too many.
    _made_of(given, len(points[0]))
    lanes = {tuple(lot): led_lots(lot, leads) for lot in lots}
    if not all([led in lanes for lot in lanes for led in lanes[lot]]):
        raise Misfit("lots")
    return pieces_over(lanes)


def _check_points_and_given(points, given):
    if not is_list(points, 1, MOST_POINTS) or not are_points(points, LEAST_WIDE, MOST_WIDE):
        raise BadPoint("points")
    if len({tuple(point) for point in points}) < len(points):
        raise BadPoint("points")
    if not is_list(given, 0, MOST_GIVEN) or not all([isinstance(each, Likeness) for each in given]):
        raise BadLikeness("given")
    if not all([each.wide == len(points[0]) for each in given]):
        raise BadLikeness("given")


def _check_lots(points, lots):
    if not is_list(lots, 0, MOST_LOTS) or not all([is_lot(lot, len(points)) for lot in lots]):
        raise BadLot("lots")
    if len({tuple(lot) for lot in lots}) < len(lots):
        raise BadLot("lots")


def _leads_of(points, given):
    leads = [led_indexes(points, each) for each in given]
    if not all([None not in lead for lead in leads]):
        raise Misfit("points")
    return leads


def led_indexes(points, likeness):
    """For each of some points the index of the one to which it is led, None where there is none."""
    index_of = {tuple(points[at]): at for at in range(len(points))}
    return [index_of.get(likeness.led(point)) for point in points]


def led_lots(lot, leads):
    """The lots to which a lot is led, each lead telling for each index the one to which it is led."""
    return [tuple(sorted([lead[at] for at in lot])) for lead in leads]


def _made_of(given, wide):
    """The pairs of places and signs of all Likenesses that the given ones make, ascending."""
    leading = [(each.places, each.signs) for each in given]
    same = (tuple(range(wide)), (1,) * wide)
    made = {same: True}
    front = [same]
    while front:
        beyond = [_one_then(one, other) for one in front for other in leading]
        front = []
        for pair in beyond:
            if pair not in made:
                made[pair] = True
                front.append(pair)
        if len(made) > MOST_MADE:
            raise TooMany("likenesses", MOST_MADE)
    return sorted(made)


def _one_then(one, other):
    """The places and signs of what leads as first the one and then the other one does."""
    places, signs = one
    return (
        tuple([places[place] for place in other[0]]),
        tuple([sign * signs[place] for place, sign in zip(other[0], other[1])]),
    )
