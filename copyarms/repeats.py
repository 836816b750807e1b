"""Copies of copies: what they cover together, and when they come to be within a drawing."""

from copyarms.drawings import ink_of, within
from copyarms.errors import InvalidTimes
from copyarms.spots import is_whole

MOST_REPEATS = 20


def check_repeats(times):
    """Raise InvalidTimes unless the number is from 0 to 20."""
    if not is_whole(times) or not 0 <= times <= MOST_REPEATS:
        raise InvalidTimes("not an integer from 0 to 20")


def repeated_ink(copy, drawing, times):
    """What a drawing, its copy, the copy of that, and so on, so many times, cover together."""
    check_repeats(times)
    strokes = list(drawing.strokes)
    done = drawing
    for number in range(times):
        done = done.copied(copy)
        strokes.extend(list(done.strokes))
    return ink_of(strokes)


def first_within(copy, drawing, goal, times):
    """The least number of times after which the copied drawing is within the goal, or None."""
    check_repeats(times)
    done = drawing
    for number in range(times + 1):
        if within(done, goal):
            return number
        done = done.copied(copy)
    return None
