"""Likeness: which copies carry what a drawing covers to just what another one covers.

Such a copy carries the dots of one ink to the dots of the other one, and the lines to the lines,
no two of them to the same one: so if there are as many of both, to carry each one is enough.
"""

from copyarms.copies import Copy, carriers
from copyarms.drawings import in_order
from copyarms.spots import ascending_pairs


def ways(one, other):
    """A list of all copies that carry the ink of one drawing to that of another; None if there is no end of them."""
    start = one.ink()
    goal = other.ink()
    if len(start[0]) != len(goal[0]) or len(start[1]) != len(goal[1]):
        return []
    if not start[1] and len(start[0]) < 2:
        return None
    dots, lines = goal
    places = {place: True for place in [*dots, *lines]}
    return in_order_of_ways([copy for copy in possible_copies(start, goal) if carries_all(copy, start, places)])


def symmetries(drawing):
    """A list of all copies that carry the ink of a drawing to itself; None if there is no end of them."""
    return ways(drawing, drawing)


def anchors(ink):
    """The pairs of spots to which a copy can carry two spots: the ends of lines, or dots if there is no line."""
    dots, lines = ink
    if lines:
        backward = [(last, first) for first, last in lines]
        return [*lines, *backward]
    return [(first, last) for first in dots for last in dots if first != last]


def possible_copies(start, goal):
    """All copies that carry the first anchor of an ink to some anchor of another one, each once."""
    first, last = anchors(start)[0]
    found = []
    for image, other in anchors(goal):
        found.extend(carriers(((first, image), (last, other))))
    return found


def carries_all(copy, start, places):
    """Whether a copy carries each dot and each line of an ink to one of some places, dots and lines."""
    for dot in start[0]:
        if copy(dot) not in places:
            return False
    for first, last in start[1]:
        if in_order(copy(first), copy(last)) not in places:
            return False
    return True


def in_order_of_ways(copies):
    """The same copies, those not mirrored first, then by their turns, then by their shifts."""
    found = []
    for mirrored in (False, True):
        pairs = [(copy.turn, copy.shift) for copy in copies if copy.mirrored == mirrored]
        found.extend([Copy(turn, shift, mirrored=mirrored) for turn, shift in ascending_pairs(pairs)])
    return found
