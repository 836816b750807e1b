"""Arms: held at a pole, they reach the spots around it, and their pens copy what they trace."""

from copyarms.copies import Copy
from copyarms.distances import is_from_to, square_between, squares_along
from copyarms.drawings import parts_of
from copyarms.errors import InvalidReach, OutOfReach
from copyarms.spots import check_spot, check_turn, faced, is_whole, minus, product

MOST_REACH = 1000


class Arm:
    """Held at a pole, with a turn and a reach from near to far."""

    def __init__(self, pole, turn, near, far, *, mirrored=False):
        check_spot(pole)
        check_turn(turn)
        check_reach(near, far)
        self.centre = pole
        self.factor = turn
        self.least = near
        self.most = far
        self.flips = mirrored
        self.pen = copy_around(pole, turn, mirrored)

    @property
    def pole(self):
        """The spot at which the arm is held."""
        return self.centre

    @property
    def turn(self):
        """The turn."""
        return self.factor

    @property
    def near(self):
        """The least distance from the pole that the arm reaches."""
        return self.least

    @property
    def far(self):
        """The greatest distance from the pole that the arm reaches."""
        return self.most

    @property
    def mirrored(self):
        """Whether what is traced is turned over."""
        return self.flips

    @property
    def effect(self):
        """The copy that the pen makes."""
        return self.pen

    def __eq__(self, other):
        return (isinstance(other, Arm) and self.centre == other.centre and self.factor == other.factor
                and self.least == other.least and self.most == other.most and self.flips == other.flips)

    def reaches(self, spot):
        """Whether the arm reaches a spot."""
        check_spot(spot)
        square = square_between(self.centre, spot)
        return is_from_to(square, (self.least * self.least, 1), (self.most * self.most, 1))


def check_reach(near, far):
    """Raise InvalidReach unless 0 <= near <= far <= 1000."""
    if not is_whole(near) or not is_whole(far) or not 0 <= near <= far <= MOST_REACH:
        raise InvalidReach("not integers with 0 <= near <= far <= 1000")


def copy_around(pole, turn, mirrored):
    """The copy with this turn that carries the pole to itself."""
    shift = minus(pole, product(turn, faced(pole, mirrored)))
    return Copy(turn, shift, mirrored=mirrored)


def traced_parts(stroke):
    """The parts of a stroke, that of a dot included."""
    return [(stroke[0], stroke[0])] if len(stroke) == 1 else parts_of(stroke)


def can_trace(arm, part):
    """Whether an arm reaches all spots of a part."""
    closest, furthest = squares_along(arm.pole, part)
    least = (arm.near * arm.near, 1)
    most = (arm.far * arm.far, 1)
    return is_from_to(closest, least, most) and is_from_to(furthest, least, most)


def traced(arm, drawing, index):
    """What the pen of an arm draws; OutOfReach tells the arm by this index."""
    for at, stroke in enumerate(drawing.strokes):
        for number, part in enumerate(traced_parts(stroke)):
            if not can_trace(arm, part):
                raise OutOfReach(index, at, number)
    return drawing.copied(arm.effect)


def trace(arm, drawing):
    """What the pen of an arm draws while the arm traces a drawing."""
    return traced(arm, drawing, 0)
