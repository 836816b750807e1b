"""Guesses: which arms of a box are joined, told by where the last pen is."""

from copyarms.boxes import all_rows, arms_of, check_box, different_copies
from copyarms.errors import Contradiction, InvalidSize
from copyarms.spots import ascending, check_spot, is_whole

MOST_JOINED = 3


class Guess:
    """About a chain of at most so many arms of a box; the rows that can be it are the candidates."""

    def __init__(self, box, most):
        check_box(box)
        if not is_whole(most) or not 0 <= most <= MOST_JOINED:
            raise InvalidSize("not an integer from 0 to 3")
        self.stock = box
        self.left = all_rows(len(box), most)
        self.seen = []

    @property
    def candidates(self):
        """A new list of all rows that remain."""
        return list(self.left)

    @property
    def history(self):
        """A new list of all accepted observations (spot, answer)."""
        return list(self.seen)

    @property
    def copies_left(self):
        """How many different copies the chains of the candidates make."""
        return different_copies(self.stock, self.left)

    def see(self, spot, answer):
        """Observe where the last pen is while the first arm traces a spot, and return how many candidates remain."""
        return self.see_all((spot, answer))

    def see_all(self, *facts):
        """Observe all (spot, answer) one after another, or none, and return how many candidates remain."""
        left = self.left
        for spot, answer in facts:
            left = remaining(self.stock, left, spot, answer)
        self.left = left
        self.seen = [*self.seen, *facts]
        return len(left)

    def answers(self, spot):
        """A list of all answers that a spot can have, None first."""
        check_spot(spot)
        found = counted_answers(self.stock, self.left, spot)
        nothing = [None] if None in found else []
        spots = ascending([answer for answer in found if answer is not None])
        return [*nothing, *spots]

    def best_spot(self, spots):
        """The index of the first spot whose answer leaves the fewest candidates in the worst case."""
        for spot in spots:
            check_spot(spot)
        best = None
        fewest = len(self.left) + 1
        for index, spot in enumerate(spots):
            counts = counted_answers(self.stock, self.left, spot)
            worst = max(list(counts.values()))
            if worst < fewest:
                best, fewest = index, worst
        return best


def pen_at(arms, spot):
    """Where the last pen is while the first arm traces a spot, or None if an arm does not reach what comes to it."""
    place = spot
    for arm in arms:
        if not arm.reaches(place):
            return None
        copy = arm.effect
        place = copy(place)
    return place


def remaining(box, rows, spot, answer):
    """A list of the rows that give an answer to a spot."""
    check_spot(spot)
    if answer is not None:
        check_spot(answer)
    left = [row for row in rows if pen_at(arms_of(box, row), spot) == answer]
    if not left:
        raise Contradiction("no candidate would remain")
    return left


def counted_answers(box, rows, spot):
    """A dict of how many rows give each answer to a spot."""
    counts = {}
    for row in rows:
        answer = pen_at(arms_of(box, row), spot)
        counts[answer] = counts.get(answer, 0) + 1
    return counts
