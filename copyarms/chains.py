"""Chains: arms that are joined one behind another, what they reach and what they draw."""

from copyarms.arms import MOST_REACH, Arm, traced, traced_parts
from copyarms.copies import kept, still_copy
from copyarms.distances import is_from_to, square_between, squares_along
from copyarms.errors import OutOfReach, TooMany
from copyarms.spots import MIDDLE, ascending_fractions, check_limit, fraction, spot_at

MOST_ARMS = 6


class Chain:
    """Up to 6 arms; each one behind the first one traces what the pen before it draws."""

    def __init__(self, *arms):
        if len(arms) > MOST_ARMS:
            raise TooMany("more than 6 arms")
        self.links = arms
        self.pen = joint_copy(arms)

    @property
    def arms(self):
        """The tuple of the arms."""
        return self.links

    @property
    def effect(self):
        """The copy that the last pen makes."""
        return self.pen

    def __len__(self):
        return len(self.links)

    def __getitem__(self, at):
        return self.links[at]

    def __iter__(self):
        raise TypeError("a chain cannot be iterated over")

    def __add__(self, other):
        both = [*self.links, *other.links]
        return Chain(*both)

    def __eq__(self, other):
        return isinstance(other, Chain) and self.links == other.links

    def draw(self, drawing):
        """What the last pen draws while the first arm traces a drawing."""
        coming = drawing
        for index, arm in enumerate(self.links):
            coming = traced(arm, coming, index)
        return coming

    def source(self, drawing):
        """The drawing whose copy a drawing is, whether or not the arms reach it."""
        return drawing.copied(~self.pen)


def joint_copy(arms):
    """The copy that the last pen of some arms makes."""
    done = still_copy()
    for arm in arms:
        done = done >> arm.effect
    return done


def zones(chain):
    """A list of (spot, near, far) for each arm: what the first tracer must keep to for this arm to reach."""
    found = []
    ahead = still_copy()
    for arm in chain.arms:
        back = ~ahead
        found.append((back(arm.pole), square_ahead(arm.near, ahead.growth), square_ahead(arm.far, ahead.growth)))
        ahead = ahead >> arm.effect
    return found


def square_ahead(distance, growth):
    """The square of the distance that becomes this one where areas grow so."""
    return fraction(distance * distance * growth[1], growth[0])


def reachable_spots(chain, limit):
    """The ascending list of all whole spots up to a limit that a chain can trace as dots."""
    check_limit(limit)
    rings = zones(chain)
    numbers = list(range(-limit, limit + 1))
    return [(x, y, 1) for x in numbers for y in numbers if is_in_all((x, y, 1), rings)]


def is_in_all(spot, rings):
    """Whether a spot is within each one of some zones."""
    return all([is_from_to(square_between(centre, spot), near, far) for centre, near, far in rings])


def needed_reach(chain, drawing):
    """A list of the squares of the least and the greatest distance that each arm must reach."""
    found = []
    coming = drawing
    for arm in chain.arms:
        found.append(squares_around(arm.pole, coming))
        coming = coming.copied(arm.effect)
    return found


def squares_around(pole, drawing):
    """The squares of the least and the greatest distance of a drawing from a pole; None without strokes."""
    squares = [squares_along(pole, part) for stroke in drawing.strokes for part in traced_parts(stroke)]
    if not squares:
        return None
    least = ascending_fractions([closest for closest, furthest in squares])
    most = ascending_fractions([furthest for closest, furthest in squares])
    return least[0], most[-1]


def can_draw(chain, drawing):
    """Whether a chain can draw a drawing."""
    try:
        chain.draw(drawing)
    except OutOfReach:
        return False
    return True


def single(chain):
    """An arm whose pen makes the same copy as a chain, or None."""
    copy = chain.effect
    # A pen is at the pole just while its arm traces the pole: poles are the spots that the copy keeps.
    pole = nearest_to_middle(kept(copy))
    if pole is None:
        return None
    return Arm(pole, copy.turn, 0, MOST_REACH, mirrored=copy.mirrored)


def nearest_to_middle(spots):
    """The nearest to the middle of some spots, told as `kept` tells them; None if there is none."""
    word = spots[0]
    if word == "none":
        return None
    if word == "all":
        return MIDDLE
    if word == "spot":
        return spots[1]
    a, b, c = spots[1:]
    return spot_at(a * c, b * c, a * a + b * b)
