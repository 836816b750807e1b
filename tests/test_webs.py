"""Point 16: pieces, regions and the least number of strokes."""

import math
import random
import unittest
from fractions import Fraction

from copyarms.copies import Copy
from copyarms.drawings import Drawing
from copyarms.webs import least_strokes, pieces, regions
from tests.exact import HUGE, at, exact, line, parts_exactly

SQUARE = line((0, 0), (1, 0), (1, 1), (0, 1), (0, 0))
NOTHING = Drawing()


def cross_product(one, other):
    return one[0] * other[1] - one[1] * other[0]


def difference(one, other):
    return one[0] - other[0], one[1] - other[1]


def is_on(place, part):
    """Whether a place is on a part, all by fractions."""
    start, end = part
    if cross_product(difference(end, start), difference(place, start)) != 0:
        return False
    return min(start, end) <= place <= max(start, end)


def meeting_places(one, other):
    """All ends of one part that are on another one, and the place where they cross."""
    found = {end for end in one if is_on(end, other)} | {end for end in other if is_on(end, one)}
    along, across = difference(one[1], one[0]), difference(other[1], other[0])
    bend = cross_product(along, across)
    if bend != 0:
        share = Fraction(cross_product(difference(other[0], one[0]), across), bend)
        place = one[0][0] + share * along[0], one[0][1] + share * along[1]
        if is_on(place, one) and is_on(place, other):
            found.add(place)
    return found


def edges_exactly(drawing):
    """All shortest stretches between ends and meeting places of the parts of the strokes, each once."""
    parts = [part for stroke in drawing.strokes if len(stroke) > 1 for part in parts_exactly(stroke)]
    edges = set()
    for part in parts:
        places = set(part)
        for other in parts:
            places |= {place for place in meeting_places(part, other) if is_on(place, part)}
        places = sorted(places)
        edges |= set(zip(places, places[1:]))
    return sorted(edges)


def bare_dots(drawing):
    """The dots that are on no part, each once."""
    parts = [part for stroke in drawing.strokes if len(stroke) > 1 for part in parts_exactly(stroke)]
    dots = {exact(stroke[0]) for stroke in drawing.strokes if len(stroke) == 1}
    return [dot for dot in dots if not any(is_on(dot, part) for part in parts)]


def edge_groups(edges):
    """The edges, those that hang together in one list."""
    groups = []
    for edge in edges:
        touched = [group for group in groups if any(set(edge) & set(other) for other in group)]
        groups = [group for group in groups if group not in touched] + [[edge] + sum(touched, [])]
    return groups


def pieces_exactly(drawing):
    return len(bare_dots(drawing)) + len(edge_groups(edges_exactly(drawing)))


def faces(edges):
    """How many regions are around edges that hang together, by going round each of them."""
    around = {}
    for start, end in edges:
        around.setdefault(start, []).append(end)
        around.setdefault(end, []).append(start)
    for place, others in around.items():
        others.sort(key=lambda other: math.atan2(*[float(part) for part in difference(other, place)]))
    steps = {(start, end) for start, others in around.items() for end in others}
    count = 0
    while steps:
        first = step = min(steps)
        while True:
            steps.remove(step)
            start, end = step
            others = around[end]
            step = end, others[(others.index(start) + 1) % len(others)]
            if step == first:
                break
        count += 1
    return count


def regions_exactly(drawing):
    return 1 + sum(faces(group) - 1 for group in edge_groups(edges_exactly(drawing)))


def least_exactly(drawing):
    """By trying: all sets of edges that one stroke can go along, then the fewest that make all edges."""
    edges = edges_exactly(drawing)
    full = (1 << len(edges)) - 1
    reached = {(0, place) for edge in edges for place in edge}
    waiting = list(reached)
    while waiting:
        used, place = waiting.pop()
        for number, edge in enumerate(edges):
            if place in edge and not used >> number & 1:
                step = used | 1 << number, edge[0] if place == edge[1] else edge[1]
                if step not in reached:
                    reached.add(step)
                    waiting.append(step)
    strokes = {used for used, place in reached if used}
    found, count = {0}, 0
    while full not in found:
        found = {done | used for done in found for used in strokes if not done & used}
        count += 1
    return count + len(bare_dots(drawing))


def random_drawings(count, most_strokes, most_spots, size):
    """Some drawings on a small grid, always the same ones."""
    source = random.Random(f"{most_strokes} {most_spots} {size}")
    for _ in range(count):
        strokes = []
        for _ in range(source.randint(1, most_strokes)):
            places = [(source.randint(0, size), source.randint(0, size)) for _ in range(source.randint(1, most_spots))]
            places = [place for number, place in enumerate(places) if number == 0 or place != places[number - 1]]
            strokes.append(line(*places))
        yield Drawing(*strokes)


class Pieces(unittest.TestCase):
    def check(self, expected, *strokes):
        self.assertEqual(pieces(Drawing(*strokes)), expected)

    def test_nothing_covered(self):
        self.check(0)

    def test_lines_that_cross(self):
        self.check(1, line((0, 0), (2, 2)), line((0, 2), (2, 0)))
        self.check(1, line((0, 0), (3, 1)), line((1, 1), (2, 0)), line((0, 1), (1, 0)))

    def test_lines_that_touch_at_an_end(self):
        self.check(1, line((0, 0), (1, 0)), line((1, 0), (1, 1)))
        self.check(1, line((0, 0), (1, 0)), line((1, 0), (2, 0)))

    def test_lines_that_touch_in_the_middle_of_another_one(self):
        self.check(1, line((0, 0), (2, 0)), line((1, 0), (1, 5)))
        self.check(1, line((0, 0), (3, 1)), ((3, 1, 2), (3, 9, 2)))

    def test_lines_that_overlap(self):
        self.check(1, line((0, 0), (2, 0)), line((1, 0), (3, 0)))
        self.check(1, line((0, 0), (5, 0)), line((1, 0), (3, 0)), line((2, 0), (0, 0)))

    def test_lines_that_do_not_meet(self):
        self.check(2, line((0, 0), (1, 0)), line((2, 0), (3, 0)))
        self.check(2, line((0, 0), (1, 0)), line((0, 1), (1, 1)))
        self.check(2, line((0, 0), (2, 0)), line((1, 1), (1, 5)))
        self.check(2, line((0, 0), (3, 1)), line((2, 0), (2, -9)))
        self.check(2, line((0, 0), (HUGE, 1)), line((1, 0), (HUGE, 0)))

    def test_dots_on_and_off_lines(self):
        self.check(1, (at(5),))
        self.check(1, (at(5),), (at(5),))
        self.check(3, (at(5),), (at(6),), (at(7),))
        self.check(1, line((0, 0), (2, 0)), (at(1),), (at(2),))
        self.check(2, line((0, 0), (2, 0)), (at(3),))
        self.check(3, line((0, 0), (2, 0)), (at(3),), (at(1, 1),), (at(1),))

    def test_a_later_line_joins_several_pieces(self):
        self.check(1, line((0, 0), (0, 5)), line((2, 0), (2, 5)), line((4, 0), (4, 5)), line((0, 1), (4, 1)))
        self.check(2, line((0, 0), (0, 5)), line((2, 0), (2, 5)), line((4, 0), (4, 5)), line((1, 1), (4, 1)))

    def test_one_within_another(self):
        self.check(2, line((0, 0), (9, 0), (9, 9), (0, 9), (0, 0)), line((3, 3), (4, 3), (3, 4), (3, 3)))

    def test_all_by_fractions(self):
        for drawing in [*random_drawings(150, 5, 3, 5), *random_drawings(40, 12, 2, 9)]:
            self.assertEqual(pieces(drawing), pieces_exactly(drawing), drawing.strokes)


class Regions(unittest.TestCase):
    def check(self, expected, *strokes):
        self.assertEqual(regions(Drawing(*strokes)), expected)

    def test_without_lines(self):
        self.check(1)
        self.check(1, (at(5),), (at(6),))

    def test_open_lines(self):
        self.check(1, line((0, 0), (1, 0)))
        self.check(1, line((0, 0), (1, 0), (1, 1), (0, 1)))
        self.check(1, line((0, 0), (2, 2)), line((0, 2), (2, 0)))
        self.check(1, line((0, 0), (2, 0)), line((1, 0), (1, 5)), line((0, 3), (2, 3)))

    def test_closed_lines(self):
        self.check(2, SQUARE)
        self.check(2, line((0, 0), (1, 0), (0, 1), (0, 0)))
        self.check(3, SQUARE, line((5, 0), (6, 0), (5, 1), (5, 0)))
        self.check(3, SQUARE, line((1, 0), (2, 0), (2, 1), (1, 1)))
        self.check(3, SQUARE, line((1, 1), (2, 1), (1, 2), (1, 1)))

    def test_dots_part_nothing(self):
        self.check(2, SQUARE, (at(1),), (at(9),))

    def test_closed_by_a_line_that_touches_in_the_middle(self):
        self.check(2, line((0, 0), (3, 0), (1, 1), (1, 0)))
        self.check(2, line((0, 0), (3, 0), (1, 1), (1, -1)))
        self.check(1, line((0, 0), (3, 0), (2, 2), (1, 1)))

    def test_lines_that_cross(self):
        self.check(5, line((0, 0), (2, 0), (2, 2), (0, 2), (0, 0)), line((0, 0), (2, 2)), line((0, 2), (2, 0)))
        self.check(3, line((0, 0), (2, 2), (2, 0), (0, 2), (0, 0)))

    def test_several_lines_that_cross_at_one_spot(self):
        self.check(1, line((-1, 0), (1, 0)), line((0, -1), (0, 1)), line((-1, -1), (1, 1)))
        self.check(7, line((-1, 0), (1, 0)), line((0, -1), (0, 1)), line((-1, -1), (1, 1)),
                   line((1, 0), (1, 1), (0, 1), (-1, 0), (-1, -1), (0, -1), (1, 0)))
        self.check(9, line((-2, -2), (2, -2), (2, 2), (-2, 2), (-2, -2)), line((-2, -2), (2, 2)), line((-2, 2), (2, -2)),
                   line((-2, 0), (2, 0)), line((0, -2), (0, 2)))

    def test_several_pieces(self):
        self.check(2, SQUARE, line((5, 5), (6, 6)))
        self.check(4, SQUARE, line((5, 0), (6, 0), (6, 1), (5, 1), (5, 0), (6, 1)))

    def test_one_within_another(self):
        around = line((-9, -9), (9, -9), (9, 9), (-9, 9), (-9, -9))
        self.check(3, around, SQUARE)
        self.check(2, around, line((0, 0), (5, 5)))
        self.check(4, around, SQUARE, ((1, 1, 4), (3, 1, 4), (1, 3, 4), (1, 1, 4)))

    def test_stretches_that_overlap_part_nothing(self):
        self.check(1, line((0, 0), (2, 0)), line((1, 0), (3, 0)), line((3, 0), (0, 0)))
        self.check(2, SQUARE, SQUARE, line((0, 0), (1, 0)))

    def test_many_crossings(self):
        across = [line((-1, y), (6, y)) for y in range(6)]
        upward = [line((x, -1), (x, 6)) for x in range(6)]
        self.check(26, *across, *upward)

    def test_numbers_of_any_size(self):
        grown = Drawing(line((0, 0), (2, 2), (2, 0), (0, 2), (0, 0))).copied(Copy((HUGE, 1, 1), (1, HUGE, 7)))
        self.assertEqual([pieces(grown), regions(grown), least_strokes(grown)], [1, 3, 1])

    def test_all_by_going_round(self):
        for drawing in [*random_drawings(150, 4, 4, 4), *random_drawings(40, 8, 3, 6)]:
            self.assertEqual(regions(drawing), regions_exactly(drawing), drawing.strokes)


class LeastStrokes(unittest.TestCase):
    def check(self, expected, *strokes):
        self.assertEqual(least_strokes(Drawing(*strokes)), expected)

    def test_nothing(self):
        self.check(0)

    def test_dots(self):
        self.check(1, (at(5),))
        self.check(1, (at(5),), (at(5),))
        self.check(2, (at(5),), (at(6),))
        self.check(1, line((0, 0), (2, 0)), (at(1),), (at(2),))
        self.check(3, line((0, 0), (2, 0)), (at(1),), (at(3),), (at(4),))

    def test_one_line(self):
        self.check(1, line((0, 0), (5, 3)))
        self.check(1, line((0, 0), (5, 3), (1, 7), (2, 2)))

    def test_a_cross(self):
        self.check(2, line((0, 0), (2, 2)), line((0, 2), (2, 0)))
        self.check(3, line((-1, 0), (1, 0)), line((0, -1), (0, 1)), line((-1, -1), (1, 1)))

    def test_a_line_that_touches_another_one(self):
        self.check(2, line((0, 0), (2, 0)), line((1, 0), (1, 5)))
        self.check(1, line((0, 0), (2, 0)), line((2, 0), (2, 5)))
        self.check(2, line((0, 0), (1, 0)), line((0, 0), (0, 1)), line((0, 0), (-3, -1)))

    def test_closed_lines(self):
        self.check(1, SQUARE)
        self.check(1, line((0, 0), (2, 2), (2, 0), (0, 2), (0, 0)))
        self.check(1, SQUARE, line((1, 1), (2, 1), (1, 2), (1, 1)))

    def test_several_pieces(self):
        self.check(2, SQUARE, line((5, 0), (6, 0), (5, 1), (5, 0)))
        self.check(3, SQUARE, line((5, 5), (7, 7)), line((5, 7), (7, 5)))
        self.check(3, line((0, 0), (1, 0)), line((2, 0), (3, 0)), line((4, 0), (5, 0)))

    def test_more_than_two_spots_where_an_odd_number_of_stretches_meet(self):
        self.check(2, line((0, 0), (1, 0), (1, 1), (0, 1), (0, 0), (1, 1)), line((0, 1), (1, 0)))
        self.check(2, line((0, 0), (4, 0)), line((1, 0), (1, 1)), line((3, 0), (3, 1)), line((1, 1), (3, 1)))
        self.check(11, line((0, 0), (11, 0)), *[line((x, 0), (x, 1)) for x in range(1, 11)])

    def test_two_spots_where_an_odd_number_of_stretches_meet(self):
        self.check(1, line((0, 0), (1, 0), (1, 1), (0, 1), (0, 0), (1, 1)))
        self.check(1, line((0, 0), (2, 0), (2, 2), (0, 2), (0, 0), (2, 2)), line((0, 2), (1, 3), (2, 2)))

    def test_lines_that_overlap_or_are_cut(self):
        self.check(1, line((0, 0), (2, 0)), line((1, 0), (3, 0)))
        self.check(1, *[line((x, 0), (x + 1, 0)) for x in range(12)])
        self.check(2, line((0, 0), (1, 1)), line((1, 1), (2, 2)), line((0, 2), (1, 1)), line((1, 1), (2, 0)))
        self.check(1, SQUARE, SQUARE, line((0, 0), (1, 0)))

    def test_more_spots_than_a_stroke_of_a_drawing_could_have(self):
        across = [line((x, x % 2), (x + 1, (x + 1) % 2), (x + 2, x % 2)) for x in range(0, 24, 2)]
        self.check(1, *across)
        corners = [(x, y) for x in range(24) for y in ((0, 1) if x % 2 else (1, 0))]
        self.check(1, *[line(*corners[start:start + 5]) for start in range(0, 44, 4)], line(*corners[44:]))

    def test_all_by_trying(self):
        tried = 0
        for drawing in [*random_drawings(120, 3, 3, 3), *random_drawings(60, 5, 2, 4)]:
            if len(edges_exactly(drawing)) <= 9:
                tried += 1
                self.assertEqual(least_strokes(drawing), least_exactly(drawing), drawing.strokes)
        self.assertGreater(tried, 100)


class Promises(unittest.TestCase):
    def test_repeated_calls_return_equal_results_and_change_nothing(self):
        drawing = Drawing(SQUARE, line((0, 0), (1, 1)), (at(7),))
        strokes = drawing.strokes
        for function, expected in ((pieces, 2), (regions, 3), (least_strokes, 2)):
            self.assertEqual([function(drawing), function(drawing)], [expected, expected])
        self.assertEqual(drawing.strokes, strokes)

    def test_the_same_in_other_strokes(self):
        one = Drawing(SQUARE, line((0, 0), (1, 1)), (at(7),))
        other = Drawing((at(7),), line((1, 1), (0, 0), (0, 1), (1, 1)), line((1, 1), (1, 0)), line((0, 0), (1, 0)),
                        (at(0),))
        for function in (pieces, regions, least_strokes):
            self.assertEqual(function(one), function(other))
