"""What makes a lift of a plain spindle lie well: the pieces of its drawn end, and its sides between.

The callers have checked the spindle, the point and the heights. The new places are what the points have at the
place that a lift gives them: those of the drawn end their heights, all others 0, here also the point itself.
"""

from spindleway.algebra import narrowed, product_of, reduced, unit_rows
from spindleway.between import between
from spindleway.bits import lot_of
from spindleway.hull import rows_by_side
from spindleway.walks import traced_from


def drawn_end(spindle, point):
    """The lot of the end that does not have a point."""
    return spindle.lower if point in spindle.upper else spindle.upper


def drawn_points(spindle, point, heights):
    """The points of the drawn end, each with its height in place of its last integer."""
    return [(*spindle.points[at][:-1], height) for at, height in zip(drawn_end(spindle, point), heights)]


def new_places(spindle, point, heights):
    """For each point its height, or 0 if it is none of the drawn end."""
    places = [0] * len(spindle.points)
    for at, height in zip(drawn_end(spindle, point), heights):
        places[at] = height
    return places


def piece_rows(spindle, point, heights):
    """The dict from the bits of each piece to its row; None if the drawn end with its heights does not span enough.

    The bits are those of places in the drawn end, the rows those of rows_by_side.
    """
    return rows_by_side(drawn_points(spindle, point, heights))


def are_plain_pieces(spindle, pieces):
    """Whether each piece has as many points as the dimension of the spindle."""
    return all([len(lot_of(bits)) == spindle.dimension for bits in pieces])


def least_well(spindle, point, heights, pieces):
    """The least integer from 1 on by which a lift of a plain spindle lies well."""
    past_sides = least_past_sides(spindle, point, new_places(spindle, point, heights))
    return max(least_past_pieces(spindle, point, pieces), past_sides)


def least_past_pieces(spindle, point, pieces):
    """The least integer from 1 on by which each piece, with its copy of the point, is in a plane that no point is past.

    No point of the drawn end is. Above and below the other points the function that has 0 at the point, and is
    straight on the piece, has what the way from the point makes with the row, over what this has at the new place.
    """
    end = [spindle.points[at][:-1] for at in range(len(spindle.points)) if at not in drawn_end(spindle, point)]
    least = 1
    for row in pieces.values():
        start = product_of(row[:-2], spindle.points[point][:-1])
        most = max([product_of(row[:-2], each) for each in end])
        least = max(least, (most - start) // abs(row[-2]) + 1)
    return least


def least_past_sides(spindle, point, places):
    """The least integer from 1 on by which each side between without the point is one with either copy, alone."""
    solid = spindle.solid
    lacks = {
        side: _lacks_at(solid, side) for side in between(spindle) if point not in solid.sides[side]
    }
    lanes = {side: [other for other in solid.neighbours[side] if other in lacks] for side in lacks}
    first = list(lacks)[0]
    # The sides between without the point hang together, so all of them are traced from the first one.
    ahead_of = traced_from(lanes, first)
    tilts = {first: _tilt_at_first(spindle, first, point, places)}
    least = 1
    for side in ahead_of:
        ahead = ahead_of[side]
        if side != first:
            tilts[side] = _tilt_beyond(tilts[ahead], lacks[ahead], lacks[side], point, places)
        least = max(least, _least_by_tilt(tilts[side], lacks[side], point, places))
    return least


def _lacks_at(solid, side):
    """What each point of a solid lacks at the plane of a side."""
    row, number = solid.planes[side]
    return [number - product_of(row, each) for each in solid.points]


def _tilt_at_first(spindle, side, point, places):
    """The tilt of a side: what a function has at each point, times an integer above 0, which stands behind.

    It is the one function that has 0 at the point, and at the points of the side their new places.
    """
    held = unit_rows(spindle.dimension + 2)
    for at in (*spindle.solid.sides[side], point):
        held = narrowed(held, (*spindle.points[at], places[at], 1))
    row = held[0]
    sign = -1 if row[-2] > 0 else 1
    return [sign * product_of(row, (*each, 0, 1)) for each in spindle.points] + [abs(row[-2])]


def _tilt_beyond(tilt, lacks, lacks_beyond, point, places):
    """The tilt of a neighbour of a side, which has but one point that this side does not have.

    A multiple of what has 0 at the point and on the ridge is added, so that it fits at the one point.
    """
    alone = [at for at in range(len(lacks)) if lacks_beyond[at] == 0 and lacks[at] > 0][0]
    here, beyond = lacks[point], lacks_beyond[point]
    times = lacks[alone] * beyond
    more = places[alone] * tilt[-1] - tilt[alone]
    grown = [
        worth * times + more * (one * beyond - other * here)
        for worth, one, other in zip(tilt[:-1], lacks, lacks_beyond)
    ]
    return reduced(grown + [tilt[-1] * times])


def _least_by_tilt(tilt, lacks, point, places):
    """The least integer from 1 on by which a side with either copy has no other point in its plane or past it."""
    # At the point itself there is no gap.
    gaps = [abs(place * tilt[-1] - worth) for place, worth in zip(places, tilt)]
    return max([
        lacks[point] * gap // (lack * tilt[-1]) + 1 for gap, lack in zip(gaps, lacks) if lack > 0
    ])
