"""Spots, turns, fractions and lines, and the exact reckoning with them.

A line is a tuple (a, b, c) for a * x + b * y = c, in the form that `line_form` returns.
"""

from copyarms.errors import InvalidSize, InvalidSpot, InvalidTurn

MIDDLE = (0, 0, 1)
ONE = (1, 0, 1)
UP = (0, 1, 1)
MOST_LIMIT = 20


def is_whole(value):
    """Whether a value is an integer; a boolean is none here."""
    return isinstance(value, int) and not isinstance(value, bool)


def common_divisor(one, other):
    """The greatest common divisor, not negative; 0 only for two zeros."""
    while other != 0:
        one, other = other, one % other
    return abs(one)


def is_spot(value):
    """Whether a value is a spot."""
    if not isinstance(value, tuple) or len(value) != 3:
        return False
    if not all([is_whole(number) for number in value]):
        return False
    x, y, d = value
    return d >= 1 and common_divisor(common_divisor(x, y), d) == 1


def check_spot(value):
    """Raise InvalidSpot for what is no spot."""
    if not is_spot(value):
        raise InvalidSpot("not a tuple (x, y, d) of integers without a common divisor, d at least 1")


def check_turn(value):
    """Raise InvalidTurn for what is no turn."""
    if not is_spot(value) or value == MIDDLE:
        raise InvalidTurn("not a tuple of the form of a spot, other than (0, 0, 1)")


def check_limit(limit):
    """Raise InvalidSize unless a limit of whole spots is from 0 to 20."""
    if not is_whole(limit) or not 0 <= limit <= MOST_LIMIT:
        raise InvalidSize("not an integer from 0 to 20")


def spot_at(x, y, d):
    """The spot (x/d, y/d), for integers with a common divisor or a negative d, too."""
    divisor = common_divisor(common_divisor(x, y), d)
    if d < 0:
        divisor = -divisor
    return x // divisor, y // divisor, d // divisor


def fraction(p, q):
    """The fraction p/q in lowest terms."""
    divisor = common_divisor(p, q)
    if q < 0:
        divisor = -divisor
    return p // divisor, q // divisor


def plus(one, other):
    """The sum of two complex numbers."""
    x, y, d = one
    u, v, e = other
    return spot_at(x * e + u * d, y * e + v * d, d * e)


def negative(number):
    """The negative of a complex number."""
    x, y, d = number
    return -x, -y, d


def minus(one, other):
    """The difference of two complex numbers."""
    return plus(one, negative(other))


def product(one, other):
    """The product of two complex numbers."""
    x, y, d = one
    u, v, e = other
    return spot_at(x * u - y * v, x * v + y * u, d * e)


def inverse(number):
    """1 divided by a complex number that is not 0."""
    x, y, d = number
    return spot_at(x * d, -y * d, x * x + y * y)


def faced(number, mirrored):
    """A complex number, turned over if that is asked for."""
    x, y, d = number
    return (x, -y, d) if mirrored else number


def carried(turn, shift, mirrored, spot):
    """Where a copy with this turn and shift carries a spot."""
    return plus(product(turn, faced(spot, mirrored)), shift)


def precedes(one, other):
    """Whether a spot is less than another one."""
    x, y, d = one
    u, v, e = other
    return (x * e, y * e) < (u * d, v * d)


def parting_scale(divisors):
    """A factor after which different fractions with these divisors differ even when rounded down.

    Two different fractions p/d and q/e differ by at least 1/(d * e), so times the square
    of the greatest divisor they differ by at least 1. This makes integers to sort by.
    """
    most = max(divisors, default=1)
    return most * most


def scaled(spot, scale):
    """The place of a spot, told by whole numbers that are ordered as the spots are."""
    x, y, d = spot
    return x * scale // d, y * scale // d


def ascending(spots):
    """A list of the same spots in ascending order."""
    scale = parting_scale([spot[2] for spot in spots])
    return sorted(spots, key=lambda one: scaled(one, scale))


def ascending_pairs(pairs):
    """A list of the same pairs of spots, ordered by the first spots, then by the second ones."""
    scale = parting_scale([spot[2] for pair in pairs for spot in pair])
    return sorted(pairs, key=lambda one: (scaled(one[0], scale), scaled(one[1], scale)))


def ascending_fractions(fractions):
    """A list of the same fractions in ascending order."""
    scale = parting_scale([q for p, q in fractions])
    return sorted(fractions, key=lambda one: one[0] * scale // one[1])


def line_form(a, b, c):
    """The line a * x + b * y = c in its only form.

    There is no common divisor, and the first one of a and b that is not 0 is positive.
    """
    divisor = common_divisor(common_divisor(a, b), c)
    if a < 0 or (a == 0 and b < 0):
        divisor = -divisor
    return a // divisor, b // divisor, c // divisor


def line_through(one, other):
    """The line through two different spots."""
    x, y, d = one
    u, v, e = other
    return line_form(y * e - v * d, u * d - x * e, u * y - x * v)


def is_on_line(spot, line):
    """Whether a spot is on a line."""
    x, y, d = spot
    a, b, c = line
    return a * x + b * y == c * d


def are_parallel(one, other):
    """Whether two lines have one direction."""
    return one[0] * other[1] == other[0] * one[1]


def crossing(one, other):
    """The spot where two lines that are not parallel cross."""
    a, b, c = one
    p, q, r = other
    return spot_at(c * q - r * b, a * r - p * c, a * q - p * b)


def equations(right, up, goal):
    """The rows (a, b, c) of whole numbers that say that x * right + y * up = goal, all complex numbers."""
    a, p, d = right
    b, q, e = up
    c, r, f = goal
    return [(a * e * f, b * d * f, c * d * e), (p * e * f, q * d * f, r * d * e)]


def solution(rows):
    """All spots with a * x + b * y = c for each row (a, b, c), told as `kept` tells them."""
    if any([a == 0 and b == 0 and c != 0 for a, b, c in rows]):
        return ("none",)
    lines = [line_form(a, b, c) for a, b, c in rows if a != 0 or b != 0]
    if not lines:
        return ("all",)
    first = lines[0]
    others = [line for line in lines if line != first]
    if not others:
        return ("line", *first)
    if are_parallel(first, others[0]):
        return ("none",)
    spot = crossing(first, others[0])
    if all([is_on_line(spot, line) for line in lines]):
        return ("spot", spot)
    return ("none",)
