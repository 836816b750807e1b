"""Drawings: strokes, what they cover, and what drawings have in common.

An ink is a tuple (dots, lines), told as `Drawing.ink` returns it; a stretch is a pair of
different spots, the lesser one first.
"""

from copyarms.errors import InvalidStroke, OpenStroke, TooMany
from copyarms.spots import (
    are_parallel, ascending, ascending_fractions, ascending_pairs, check_spot, crossing, fraction,
    is_on_line, is_spot, line_through, precedes)

MOST_SPOTS = 12
MOST_STROKES = 12


class Drawing:
    """Up to 12 strokes, each a tuple of 1 to 12 spots."""

    def __init__(self, *strokes):
        check_strokes(strokes)
        self.held = strokes

    @property
    def strokes(self):
        """The tuple of the strokes."""
        return self.held

    def __len__(self):
        return len(self.held)

    def __getitem__(self, at):
        return self.held[at]

    def __iter__(self):
        raise TypeError("a drawing cannot be iterated over")

    def __add__(self, other):
        strokes = [*self.held, *other.held]
        return Drawing(*strokes)

    def __eq__(self, other):
        return isinstance(other, Drawing) and self.held == other.held

    def ink(self):
        """What the drawing covers, a tuple (dots, lines)."""
        return ink_of(self.held)

    def covers(self, spot):
        """Whether a spot is covered."""
        check_spot(spot)
        return is_covered(spot, (dots_of(self.held), stretches_of(self.held)))

    def copied(self, copy):
        """The drawing with all its spots carried."""
        strokes = [tuple([copy(spot) for spot in stroke]) for stroke in self.held]
        return Drawing(*strokes)


def parts_of(stroke):
    """The pairs of neighbours in a stroke."""
    return list(zip(stroke, stroke[1:]))


def is_stroke(value):
    """Whether a value is a stroke."""
    if not isinstance(value, tuple) or not 1 <= len(value) <= MOST_SPOTS:
        return False
    if not all([is_spot(spot) for spot in value]):
        return False
    return all([start != end for start, end in parts_of(value)])


def check_strokes(strokes):
    """Raise InvalidStroke for the first one that is none, then TooMany."""
    for index, stroke in enumerate(strokes):
        if not is_stroke(stroke):
            raise InvalidStroke(index)
    if len(strokes) > MOST_STROKES:
        raise TooMany("more than 12 strokes")


def dots_of(strokes):
    """The spots of the strokes that are dots."""
    return [stroke[0] for stroke in strokes if len(stroke) == 1]


def stretches_of(strokes):
    """The parts of all strokes, each the lesser spot first."""
    return [in_order(start, end) for stroke in strokes for start, end in parts_of(stroke)]


def in_order(one, other):
    """Two spots as a pair, the lesser one first."""
    return (one, other) if precedes(one, other) else (other, one)


def ink_of(strokes):
    """What any number of strokes cover."""
    return ink_from(dots_of(strokes), stretches_of(strokes))


def ink_from(dots, stretches):
    """The ink of some dots and stretches, which may overlap or touch."""
    lines = longest(stretches)
    alone = {dot: True for dot in dots if not is_on_any(dot, lines)}
    return tuple(ascending(list(alone))), tuple(ascending_pairs(lines))


def longest(stretches):
    """The stretches, those of one line joined where they overlap or touch."""
    along = {}
    for start, end in ascending_pairs(stretches):
        line = line_through(start, end)
        if line not in along:
            along[line] = []
        along[line].append((start, end))
    return [stretch for row in along.values() for stretch in joined(row)]


def joined(row):
    """The ascending stretches of one line, joined where they overlap or touch."""
    done = []
    first, last = row[0]
    for start, end in row:
        if precedes(last, start):
            done.append((first, last))
            first, last = start, end
        elif precedes(last, end):
            last = end
    done.append((first, last))
    return done


def is_between(spot, stretch):
    """Whether a spot of the line of a stretch is on the stretch."""
    # Along a line the spots are ordered as they follow each other.
    return not precedes(spot, stretch[0]) and not precedes(stretch[1], spot)


def is_on_any(spot, stretches):
    """Whether a spot is on one of the stretches."""
    for stretch in stretches:
        if is_between(spot, stretch) and is_on_line(spot, line_through(stretch[0], stretch[1])):
            return True
    return False


def is_covered(spot, ink):
    """Whether a spot is one of the dots or on one of the lines."""
    dots, lines = ink
    return spot in dots or is_on_any(spot, lines)


def overlap(one, other):
    """The pair of the ends of what two stretches share, equal if it is one spot, or None."""
    line = line_through(one[0], one[1])
    across = line_through(other[0], other[1])
    if line == across:
        start = in_order(one[0], other[0])[1]
        end = in_order(one[1], other[1])[0]
        return None if precedes(end, start) else (start, end)
    if are_parallel(line, across):
        return None
    spot = crossing(line, across)
    return (spot, spot) if is_between(spot, one) and is_between(spot, other) else None


def common_ink(one, other):
    """What two inks both cover."""
    dots = [dot for dot in one[0] if is_covered(dot, other)]
    dots.extend([dot for dot in other[0] if is_covered(dot, one)])
    stretches = []
    for line in one[1]:
        for across in other[1]:
            shared = overlap(line, across)
            if shared is not None and shared[0] == shared[1]:
                dots.append(shared[0])
            elif shared is not None:
                stretches.append(shared)
    return ink_from(dots, stretches)


def common(one, other):
    """What two drawings both cover, told as `ink` tells it."""
    return common_ink(one.ink(), other.ink())


def within(one, other):
    """Whether the second drawing covers all that the first one covers."""
    return common(one, other) == one.ink()


def alike(one, other):
    """Whether two drawings cover the same."""
    return one.ink() == other.ink()


def measure(drawing):
    """The least and the greatest x, the least and the greatest y; None without strokes."""
    spots = [spot for stroke in drawing.strokes for spot in stroke]
    if not spots:
        return None
    across = ascending_fractions([fraction(x, d) for x, y, d in spots])
    upward = ascending_fractions([fraction(y, d) for x, y, d in spots])
    return across[0], across[-1], upward[0], upward[-1]


def area(stroke):
    """The area that a stroke goes round, positive if it goes counterclockwise."""
    if not is_stroke(stroke):
        raise InvalidStroke(0)
    if stroke[0] != stroke[-1]:
        raise OpenStroke("the last spot is not the first one")
    p, q = 0, 1
    for (x, y, d), (u, v, e) in parts_of(stroke):
        p, q = fraction(p * 2 * d * e + (x * v - u * y) * q, q * 2 * d * e)
    return p, q
