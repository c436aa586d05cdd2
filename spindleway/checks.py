"""Whether any values are integers, points or lots, and the common divisor of integers."""

from spindleway.algebra import divisor_of, reduced
from spindleway.errors import BadNumber


def is_integer(value):
    """Whether a value is an integer; True and False are none."""
    return isinstance(value, int) and not isinstance(value, bool)


def is_within(value, least, most):
    """Whether a value is an integer from least to most; a bound of None is no bound."""
    if not is_integer(value):
        return False
    return (least is None or least <= value) and (most is None or value <= most)


def is_list(value, least, most):
    """Whether a value is a list or tuple of least to most items; a bound of None is no bound."""
    return isinstance(value, (list, tuple)) and is_within(len(value), least, most)


def are_integers(value):
    """Whether a value is a list or tuple of integers, perhaps of none."""
    return is_list(value, None, None) and all([is_integer(each) for each in value])


def is_point(value, wide):
    """Whether a value is a list or tuple of so many integers."""
    return is_list(value, wide, wide) and are_integers(value)


def are_points(value, least_wide, most_wide):
    """Whether a list, not an empty one, has points of as many integers alone, within the bounds."""
    if not is_list(value[0], least_wide, most_wide):
        return False
    return all([is_point(point, len(value[0])) for point in value])


def is_lot(value, many):
    """Whether a value is a list or tuple of ascending integers from 0 on below many."""
    if not are_integers(value):
        return False
    least = 0
    for number in value:
        if not least <= number < many:
            return False
        least = number + 1
    return True


def common_divisor(values):
    """The greatest integer that divides all integers of a list, 0 if all are 0 or there is none."""
    if not are_integers(values):
        raise BadNumber("values")
    return divisor_of(values)


def coprime(values):
    """The tuple of the integers of a list, divided by their common divisor if it is not 0."""
    if not are_integers(values):
        raise BadNumber("values")
    return reduced(values)
