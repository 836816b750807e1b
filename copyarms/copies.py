"""Copies: how all spots are carried, and which copies keep what and lead where."""

from copyarms.errors import InvalidTimes, TooFew
from copyarms.spots import (
    MIDDLE, ONE, UP, carried, check_spot, check_turn, equations, faced, fraction, inverse, is_whole,
    minus, negative, product, solution)

MOST_TIMES = 100


class Copy:
    """Carries a spot z to turn * z + shift, with z turned over first if it is mirrored."""

    def __init__(self, turn, shift, *, mirrored=False):
        check_turn(turn)
        check_spot(shift)
        self.factor = turn
        self.offset = shift
        self.flips = mirrored

    @property
    def turn(self):
        """The turn."""
        return self.factor

    @property
    def shift(self):
        """The shift, where the middle is carried."""
        return self.offset

    @property
    def mirrored(self):
        """Whether spots are turned over first."""
        return self.flips

    @property
    def growth(self):
        """The fraction by which areas grow."""
        x, y, d = self.factor
        return fraction(x * x + y * y, d * d)

    def __call__(self, spot):
        check_spot(spot)
        return carried(self.factor, self.offset, self.flips, spot)

    def __rshift__(self, other):
        turn = product(other.factor, faced(self.factor, other.flips))
        shift = carried(other.factor, other.offset, other.flips, self.offset)
        return Copy(turn, shift, mirrored=self.flips != other.flips)

    def __invert__(self):
        back = inverse(self.factor)
        shift = negative(product(back, self.offset))
        return Copy(faced(back, self.flips), faced(shift, self.flips), mirrored=self.flips)

    def __eq__(self, other):
        return (isinstance(other, Copy) and self.factor == other.factor
                and self.offset == other.offset and self.flips == other.flips)

    def again(self, times):
        """The copy done so many times, back for a negative number."""
        if not is_whole(times) or not -MOST_TIMES <= times <= MOST_TIMES:
            raise InvalidTimes("not an integer from -100 to 100")
        step = self if times >= 0 else ~self
        done = still_copy()
        for number in range(abs(times)):
            done = done >> step
        return done


def still_copy():
    """The copy that carries all spots to themselves."""
    return Copy(ONE, MIDDLE)


def kept(copy):
    """All spots that a copy carries to themselves."""
    return meeting(copy, still_copy())


def order(copy):
    """After how many times a copy carries all spots to themselves, or None if never."""
    # The only roots of 1 among the turns are 1, i, -1 and -i, and a mirrored copy done twice has
    # a positive turn: no other number can be the first.
    for times in (1, 2, 4):
        if copy.again(times) == still_copy():
            return times
    return None


def meeting(one, other):
    """All spots that two copies carry to the same spot."""
    # What parts the two images grows evenly with x and with y: three spots tell how.
    at_middle = gap(one, other, MIDDLE)
    right = minus(gap(one, other, ONE), at_middle)
    up = minus(gap(one, other, UP), at_middle)
    return solution(equations(right, up, negative(at_middle)))


def gap(one, other, spot):
    """The difference of the spots where two copies carry a spot."""
    return minus(one(spot), other(spot))


def carriers(pairs):
    """A list of all copies that carry the first spot of each pair to the second one."""
    for pair in pairs:
        for spot in pair:
            check_spot(spot)
    others = [one for one in pairs if one[0] != pairs[0][0]]
    if not others:
        raise TooFew("no two different first spots")
    found = []
    for mirrored in (False, True):
        found.extend(carriers_by(pairs, others[0], mirrored))
    return found


def carriers_by(pairs, other, mirrored):
    """The copy, mirrored or not, that carries all pairs, alone in a list; an empty list if there is none.

    Other is a pair whose first spot is not that of the first one of the pairs.
    """
    source, goal = pairs[0]
    start = faced(minus(other[0], source), mirrored)
    turn = product(minus(other[1], goal), inverse(start))
    if turn == MIDDLE:
        return []
    shift = minus(goal, product(turn, faced(source, mirrored)))
    if any([carried(turn, shift, mirrored, one) != image for one, image in pairs]):
        return []
    return [Copy(turn, shift, mirrored=mirrored)]
