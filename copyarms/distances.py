"""The squares of distances between spots, and of a spot from straight parts, all fractions.

A part is a pair of spots, its ends; the part of a dot has this one spot as both ends.
"""

from copyarms.spots import ascending_fractions, fraction, minus


def square_between(one, other):
    """The square of the distance between two spots."""
    x, y, d = minus(one, other)
    return fraction(x * x + y * y, d * d)


def is_from_to(value, least, most):
    """Whether a fraction is at least one and at most another one."""
    p, q = value
    return least[0] * q <= p * least[1] and p * most[1] <= most[0] * q


def square_beside(spot, part):
    """The square of the distance of a spot from the line of a part.

    None if the spot of the line that is nearest to it is not between the ends of the part.
    """
    x, y, d = minus(part[1], part[0])
    u, v, e = minus(spot, part[0])
    length = x * x + y * y
    if not 0 < (x * u + y * v) * d < e * length:
        return None
    across = x * v - y * u
    return fraction(across * across, e * e * length)


def squares_along(spot, part):
    """The squares of the least and of the greatest distance of a spot from the spots of a part."""
    ends = ascending_fractions([square_between(spot, end) for end in part])
    beside = square_beside(spot, part)
    return (ends[0] if beside is None else beside), ends[1]
