"""What several tests share: short ways to write spots, and the document's words over again by fractions."""

from fractions import Fraction

MIDDLE = (0, 0, 1)
ONE = (1, 0, 1)
I = (0, 1, 1)
HUGE = 10 ** 40

NO_SPOTS = [(2, 0, 2), (0, 0, 2), (1, 0, 0), (1, 0, -1), (True, 0, 1), (0, False, 1), (1, 0, True), (1, 0), (1, 0, 1, 1)]
NO_NUMBERS = [True, False, None, "1", (1,), 1.0]


def at(x, y=0):
    """A spot with whole numbers."""
    return (x, y, 1)


def line(*places):
    """A stroke through places with whole numbers."""
    return tuple([(x, y, 1) for x, y in places])


def exact(spot):
    """The two fractions of a spot."""
    return Fraction(spot[0], spot[2]), Fraction(spot[1], spot[2])


def told(copy):
    """What makes a copy."""
    return copy.turn, copy.shift, copy.mirrored


def pen_exactly(arm, place):
    """Point 9 over again: where the pen is while the arm traces a place, a pair of fractions."""
    (a, b), (p, q), (x, y) = exact(arm.pole), exact(arm.turn), place
    x, y = x - a, y - b
    if arm.mirrored:
        y = -y
    return a + p * x - q * y, b + p * y + q * x


def square(one, other):
    """The square of the distance of two places, pairs of fractions."""
    return (one[0] - other[0]) ** 2 + (one[1] - other[1]) ** 2


def squares_exactly(pole, start, end):
    """The squares of the least and the greatest distance of a pole from a part, all pairs of fractions."""
    length = square(start, end)
    along = Fraction(0)
    if length:
        along = ((pole[0] - start[0]) * (end[0] - start[0]) + (pole[1] - start[1]) * (end[1] - start[1])) / length
    along = min(max(along, Fraction(0)), Fraction(1))
    nearest = tuple([a + along * (b - a) for a, b in zip(start, end)])
    return square(pole, nearest), max(square(pole, start), square(pole, end))


def parts_exactly(stroke):
    """The parts of a stroke, pairs of pairs of fractions; a dot has one."""
    places = [exact(spot) for spot in stroke]
    return list(zip(places, places[1:] or places))


def as_fraction(value):
    """The document's tuple for a fraction."""
    return value.numerator, value.denominator
