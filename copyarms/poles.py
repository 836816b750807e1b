"""Poles: where an arm can be held whose pen carries some spots to others."""

from copyarms.spots import ONE, UP, check_spot, check_turn, equations, faced, minus, product, solution


def poles(turn, pairs, *, mirrored=False):
    """All spots that can be the pole of an arm whose pen carries the first spot of each pair to the second one."""
    check_turn(turn)
    for pair in pairs:
        for spot in pair:
            check_spot(spot)
    # The pen is at pole + turn * (z - pole): the pole without its own image is the goal without the image of z.
    right = unmoved(turn, mirrored, ONE, ONE)
    up = unmoved(turn, mirrored, UP, UP)
    rows = []
    for spot, goal in pairs:
        rows.extend(equations(right, up, unmoved(turn, mirrored, spot, goal)))
    return solution(rows)


def unmoved(turn, mirrored, spot, goal):
    """The goal without what a turn around the middle makes of a spot."""
    return minus(goal, product(turn, faced(spot, mirrored)))
