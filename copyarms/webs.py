"""Webs: of how many pieces what a drawing covers consists, how it parts the plane, and how few strokes can draw it.

The lines of an ink are the longest stretches: two different ones share one spot at most.
"""

from copyarms.drawings import overlap


def pieces(drawing):
    """Of how many pieces what a drawing covers consists."""
    dots, lines = drawing.ink()
    return len(dots) + len(line_groups(lines))


def regions(drawing):
    """Into how many regions the lines of a drawing part the plane."""
    dots, lines = drawing.ink()
    rows = [knots(line, lines) for line in lines]
    stretches = sum([len(row) - 1 for row in rows])
    spots = {spot: True for row in rows for spot in row}
    # Euler's formula, for a web of several pieces.
    return stretches - len(spots) + len(line_groups(lines)) + 1


def least_strokes(drawing):
    """The least number of strokes that cover the same, none of its stretches gone along twice."""
    dots, lines = drawing.ink()
    return len(dots) + sum([strokes_for(group) for group in line_groups(lines)])


def line_groups(lines):
    """A list of lists of the lines that hang together."""
    groups = []
    for line in lines:
        groups = with_line(groups, line)
    return groups


def with_line(groups, line):
    """The groups with one line more, which joins all those that it touches."""
    apart = []
    joint = [line]
    for group in groups:
        if touches(line, group):
            joint.extend(group)
        else:
            apart.append(group)
    return [*apart, joint]


def touches(line, group):
    """Whether a line has a spot in common with one of a group."""
    return any([overlap(line, other) is not None for other in group])


def knots(line, lines):
    """A list of the spots where a line ends or meets others, each once."""
    spots = {line[0]: True, line[1]: True}
    for other in lines:
        shared = overlap(line, other)
        if shared is not None:
            # What the line shares with itself begins at its first end.
            spots[shared[0]] = True
    return list(spots)


def strokes_for(group):
    """How few strokes go along all lines that hang together, once each."""
    ends = {}
    for line in group:
        for spot in line:
            ends[spot] = ends.get(spot, 0) + 1
    # A line that goes on through a spot adds two stretches there: only ends can make their number odd.
    odd = [spot for spot, count in ends.items() if count % 2 == 1]
    return max(1, len(odd) // 2)
