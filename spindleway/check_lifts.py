"""Whether any values are right papers about lifts."""

from spindleway.checks import is_integer, is_within
from spindleway.errors import SolidError
from spindleway.lifts import Lift, check_liftable, point_to_lift
from spindleway.overs import Strays
from spindleway.pulls import is_plain
from spindleway.wells import Shut, Taking


def shows_well(spindle, point, heights, by, value):
    """Whether a value is the one Well, a Strays of any side that none takes, or any right Shut."""
    taking = Taking(spindle, point, heights, by)
    if type(value) is Strays:
        return is_within(value.side, 0, len(taking.takers) - 1) and taking.takers[value.side] is None
    if type(value) is Shut:
        return is_integer(value.side) and value.side in taking.shut
    return taking.is_told_by(value)


def shows_lift(spindle, value):
    """Whether a value is any Lift that is right for a plain spindle."""
    check_liftable(spindle)
    if type(value) is not Lift or not is_integer(value.point) or value.point != point_to_lift(spindle):
        return False
    try:
        taking = Taking(spindle, value.point, value.heights, value.by)
    except SolidError:
        return False
    return taking.is_well() and is_plain(taking.grown)
