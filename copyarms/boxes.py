"""Boxes of arms: which rows of them make a copy, and which can draw a drawing.

A row is a tuple of the numbers of different arms of a box, in the order in which they are joined.
"""

from copyarms.arms import trace
from copyarms.chains import joint_copy
from copyarms.errors import InvalidBox, OutOfReach

MOST_IN_BOX = 5


def check_box(box):
    """Raise InvalidBox unless there are 1 to 5 arms."""
    if not 1 <= len(box) <= MOST_IN_BOX:
        raise InvalidBox("not 1 to 5 arms")


def all_rows(count, most):
    """All rows of at most so many of a number of arms, by their lengths, then as tuples."""
    found = [()]
    last = [()]
    for length in range(min(count, most)):
        last = [(*row, number) for row in last for number in range(count) if number not in row]
        found.extend(last)
    return found


def arms_of(box, row):
    """A list of the arms of a row."""
    return [box[number] for number in row]


def different_copies(box, rows):
    """How many different copies the chains of some rows make."""
    copies = [joint_copy(arms_of(box, row)) for row in rows]
    return len({(copy.turn, copy.shift, copy.mirrored): True for copy in copies})


def rows_for(box, copy):
    """A list of all rows whose chains make a copy."""
    check_box(box)
    return [row for row in all_rows(len(box), len(box)) if joint_copy(arms_of(box, row)) == copy]


def copy_count(box):
    """How many different copies all rows make."""
    check_box(box)
    return different_copies(box, all_rows(len(box), len(box)))


def needless_arms(box):
    """The ascending list of the numbers of the arms without each of which the others make as many copies."""
    goal = copy_count(box)
    return [number for number in range(len(box)) if copies_without(box, number) == goal]


def copies_without(box, number):
    """How many different copies the rows without one arm make."""
    rows = [row for row in all_rows(len(box), len(box)) if number not in row]
    return different_copies(box, rows)


def drawable_rows(box, drawing):
    """A list of all rows whose chains can draw a drawing."""
    check_box(box)
    return [row for row, drawn in drawn_rows(box, drawing)]


def row_to_draw(box, drawing, goal):
    """The first row whose chain draws what covers the same as the goal, or None."""
    check_box(box)
    ink = goal.ink()
    for row, drawn in drawn_rows(box, drawing):
        if drawn.ink() == ink:
            return row
    return None


def drawn_rows(box, drawing):
    """A list of (row, what its chain draws) for all rows that can draw a drawing, in the order of the rows."""
    found = [((), drawing)]
    last = list(found)
    while last:
        # A row can draw only if it can without its last arm.
        last = [step for row, drawn in last for step in next_steps(box, row, drawn)]
        found.extend(last)
    return found


def next_steps(box, row, drawn):
    """A list of (row, what its chain draws) for a row with one arm more, each one that can trace what it has drawn."""
    found = []
    for number, arm in enumerate(box):
        if number not in row:
            try:
                found.append(((*row, number), trace(arm, drawn)))
            except OutOfReach:
                continue
    return found
