"""Points 6, 7 and 8: drawings, what they cover, and their measures."""

import itertools
import unittest
from fractions import Fraction
from unittest import mock

from copyarms.copies import Copy
from copyarms.drawings import Drawing, alike, area, common, measure, within
from copyarms.errors import InvalidSpot, InvalidStroke, OpenStroke, TooMany
from copyarms.spots import spot_at

MIDDLE = (0, 0, 1)
ONE = (1, 0, 1)
I = (0, 1, 1)
HUGE = 10 ** 50


def at(x, y=0):
    return (x, y, 1)


def line(*places):
    """A stroke through places with whole numbers."""
    return tuple([(x, y, 1) for x, y in places])


def exact(spot):
    return Fraction(spot[0], spot[2]), Fraction(spot[1], spot[2])


WRONG_STROKES = [
    (), ((2, 0, 2),), (MIDDLE, (0, 0, 0)), ((True, 0, 1),), (MIDDLE, (1, 0)), (MIDDLE, None), (MIDDLE, "010"),
    (MIDDLE, MIDDLE), (MIDDLE, ONE, ONE), (MIDDLE, ONE, I, I, ONE), (0, 0, 1),
    tuple([at(x) for x in range(13)]), tuple([at(x) for x in range(40)]),
]


class Strokes(unittest.TestCase):
    def test_strokes_that_can_be(self):
        for stroke in ((MIDDLE,), (MIDDLE, ONE), (MIDDLE, ONE, MIDDLE), tuple([at(x) for x in range(12)])):
            self.assertEqual(Drawing(stroke).strokes, (stroke,))

    def test_invalid_stroke_with_its_index(self):
        for wrong in WRONG_STROKES:
            for index in (0, 1, 5):
                strokes = [(ONE,)] * 6
                strokes[index] = wrong
                with self.assertRaises(InvalidStroke, msg=wrong) as caught:
                    Drawing(*strokes)
                self.assertEqual(caught.exception.index, index)

    def test_the_first_wrong_stroke_is_told(self):
        with self.assertRaises(InvalidStroke) as caught:
            Drawing((ONE,), (ONE, ONE), (), ((0, 0, 0),))
        self.assertEqual(caught.exception.index, 1)

    def test_twelve_strokes_and_more(self):
        self.assertEqual(len(Drawing(*[(ONE,)] * 12)), 12)
        for count in (13, 14, 30):
            with self.assertRaises(TooMany):
                Drawing(*[(ONE,)] * count)

    def test_a_wrong_stroke_behind_the_twelfth_one_ahead_of_too_many(self):
        for wrong in WRONG_STROKES:
            with self.assertRaises(InvalidStroke) as caught:
                Drawing(*[(ONE,)] * 12, wrong)
            self.assertEqual(caught.exception.index, 12)
            with self.assertRaises(InvalidStroke) as caught:
                Drawing(*[(ONE,)] * 14, wrong, (ONE,))
            self.assertEqual(caught.exception.index, 14)


class Parts(unittest.TestCase):
    def setUp(self):
        self.strokes = (line((0, 0), (1, 0)), ((5, 5, 2),), line((2, 0), (2, 2), (0, 0)))
        self.drawing = Drawing(*self.strokes)

    def test_strokes_length_and_index(self):
        self.assertEqual(self.drawing.strokes, self.strokes)
        self.assertIsInstance(self.drawing.strokes, tuple)
        self.assertEqual(len(self.drawing), 3)
        self.assertEqual([self.drawing[0], self.drawing[1], self.drawing[2]], list(self.strokes))
        self.assertEqual([Drawing().strokes, len(Drawing())], [(), 0])
        with self.assertRaises(IndexError):
            self.drawing[3]

    def test_strokes_cannot_be_assigned(self):
        with self.assertRaises(AttributeError):
            self.drawing.strokes = ()

    def test_it_cannot_be_iterated_over(self):
        with self.assertRaises(TypeError):
            iter(self.drawing)
        with self.assertRaises(TypeError):
            list(self.drawing)
        with self.assertRaises(TypeError):
            self.strokes[0] in self.drawing

    def test_sum(self):
        other = Drawing((I,), self.strokes[0])
        self.assertEqual((self.drawing + other).strokes, self.strokes + ((I,), self.strokes[0]))
        self.assertEqual((other + self.drawing).strokes, ((I,), self.strokes[0]) + self.strokes)
        self.assertEqual((self.drawing + Drawing()).strokes, self.strokes)
        self.assertEqual([len(self.drawing), len(other)], [3, 2])

    def test_sum_of_too_many(self):
        one, other = Drawing(*[(ONE,)] * 7), Drawing(*[(I,)] * 5)
        self.assertEqual(len(one + other), 12)
        with self.assertRaises(TooMany):
            one + Drawing(*[(I,)] * 6)
        self.assertEqual([one.strokes, other.strokes], [((ONE,),) * 7, ((I,),) * 5])

    def test_equality_compares_the_strokes(self):
        self.assertEqual(self.drawing, Drawing(*self.strokes))
        self.assertFalse(self.drawing != Drawing(*self.strokes))
        self.assertNotEqual(self.drawing, Drawing(*self.strokes[::-1]))
        self.assertNotEqual(Drawing((MIDDLE, ONE)), Drawing((ONE, MIDDLE)))
        self.assertNotEqual(Drawing((MIDDLE,)), Drawing((MIDDLE,), (MIDDLE,)))
        self.assertEqual(Drawing(), Drawing())

    def test_equality_with_another_kind(self):
        for other in (None, 3, "", self.strokes, list(self.strokes), Copy(ONE, MIDDLE), mock.ANY):
            self.assertIs(self.drawing == other, False)
            self.assertIs(self.drawing != other, True)
        self.assertIs(Drawing() == (), False)

    def test_copied(self):
        copy = Copy((0, 2, 1), (1, 0, 1))
        self.assertEqual(self.drawing.copied(copy).strokes,
                         (line((1, 0), (1, 2)), (at(-4, 5),), line((1, 4), (-3, 4), (1, 0))))
        mirror = Copy((1, 0, 2), MIDDLE, mirrored=True)
        self.assertEqual(self.drawing.copied(mirror).strokes,
                         ((MIDDLE, (1, 0, 2)), ((5, -5, 4),), (ONE, (1, -1, 1), MIDDLE)))
        self.assertEqual(self.drawing.strokes, self.strokes)
        self.assertEqual(Drawing().copied(copy), Drawing())


class Ink(unittest.TestCase):
    def check(self, strokes, dots, lines):
        self.assertEqual(Drawing(*strokes).ink(), (tuple(dots), tuple(lines)))

    def test_nothing(self):
        self.check([], [], [])

    def test_parts_that_overlap(self):
        self.check([line((0, 0), (4, 2)), line((2, 1), (8, 4))], [], [line((0, 0), (8, 4))])
        self.check([line((0, 0), (9, 0)), line((2, 0), (3, 0))], [], [line((0, 0), (9, 0))])
        self.check([line((2, 0), (3, 0)), line((0, 0), (9, 0)), line((5, 0), (10, 0))], [], [line((0, 0), (10, 0))])

    def test_parts_that_only_touch(self):
        self.check([line((0, 0), (1, 1)), line((1, 1), (3, 3))], [], [line((0, 0), (3, 3))])
        self.check([line((0, 0), (1, 0), (2, 0), (2, 1))], [], [line((0, 0), (2, 0)), line((2, 0), (2, 1))])

    def test_parts_that_touch_at_an_angle_stay_two(self):
        self.check([line((0, 0), (1, 1), (2, 0))], [], [line((0, 0), (1, 1)), line((1, 1), (2, 0))])

    def test_parts_that_go_the_other_way(self):
        self.check([line((3, 1), (0, 1))], [], [line((0, 1), (3, 1))])
        self.check([line((0, 5), (0, 1))], [], [line((0, 1), (0, 5))])
        self.check([line((0, 0), (3, 0), (1, 0), (5, 0))], [], [line((0, 0), (5, 0))])
        self.check([line((4, 0), (2, 0)), line((0, 0), (2, 0))], [], [line((0, 0), (4, 0))])

    def test_parts_of_one_line_with_a_gap(self):
        self.check([line((2, 2), (3, 3)), line((0, 0), (1, 1))], [], [line((0, 0), (1, 1)), line((2, 2), (3, 3))])

    def test_parts_of_parallel_lines(self):
        self.check([line((0, 1), (2, 1)), line((1, 0), (3, 0))], [], [line((0, 1), (2, 1)), line((1, 0), (3, 0))])

    def test_upright_lines(self):
        self.check([line((1, 4), (1, 2)), line((1, 3), (1, -1)), line((0, 0), (0, 1))], [],
                   [line((0, 0), (0, 1)), line((1, -1), (1, 4))])

    def test_dots_on_and_off_lines(self):
        self.check([line((0, 0), (2, 2)), (at(1, 1),), (at(0, 0),), (at(2, 2),), ((1, 1, 2),)], [],
                   [line((0, 0), (2, 2))])
        self.check([line((0, 0), (2, 2)), (at(3, 3),), ((1, 2, 2),), (at(-1, -1),)],
                   [at(-1, -1), (1, 2, 2), at(3, 3)], [line((0, 0), (2, 2))])

    def test_dots_that_are_drawn_twice(self):
        self.check([(I,), (ONE,), (I,)], [I, ONE], [])

    def test_a_dot_does_not_close_a_gap(self):
        self.check([line((0, 0), (1, 0)), line((2, 0), (3, 0)), ((3, 0, 2),)], [(3, 0, 2)],
                   [line((0, 0), (1, 0)), line((2, 0), (3, 0))])

    def test_order_as_fractions(self):
        self.check([((2, 0, 3),), ((1, 0, 2),), ((3, 0, 4),), ((1, -1, 2),)],
                   [(1, -1, 2), (1, 0, 2), (2, 0, 3), (3, 0, 4)], [])
        self.check([((2, 0, 3), (9, 9, 1)), ((1, 0, 2), (9, 9, 1)), ((1, 0, 2), (2, 7, 3)), ((1, 0, 2), (3, 1, 4))], [],
                   [((1, 0, 2), (2, 7, 3)), ((1, 0, 2), (3, 1, 4)), ((1, 0, 2), (9, 9, 1)), ((2, 0, 3), (9, 9, 1))])

    def test_numbers_of_any_size(self):
        far = line((HUGE, HUGE + 1), (2 * HUGE, 2 * HUGE + 1))
        self.check([far, line((0, 1), (HUGE, HUGE + 1))], [], [line((0, 1), (2 * HUGE, 2 * HUGE + 1))])
        self.check([far, line((0, 0), (HUGE, HUGE + 1))], [], [line((0, 0), (HUGE, HUGE + 1)), far])

    def test_repeated_calls(self):
        drawing = Drawing(line((3, 1), (0, 1)), (ONE,))
        self.assertEqual(drawing.ink(), drawing.ink())
        self.assertEqual(drawing.strokes, (line((3, 1), (0, 1)), (ONE,)))


class Covers(unittest.TestCase):
    def test_dots_and_lines(self):
        drawing = Drawing(line((0, 0), (4, 2), (4, 0)), ((7, 1, 3),))
        for spot in (at(0, 0), at(4, 2), at(4, 0), at(2, 1), at(4, 1), (2, 1, 2), (8, 1, 2), (7, 1, 3)):
            self.assertIs(drawing.covers(spot), True, spot)
        for spot in (at(1, 0), at(6, 3), at(-2, -1), at(4, 3), at(4, -1), (7, 2, 3), (1, 1, 2), (2 * HUGE, HUGE - 1, HUGE)):
            self.assertIs(drawing.covers(spot), False, spot)
        self.assertIs(Drawing().covers(MIDDLE), False)

    def test_invalid_spot(self):
        for wrong in ((2, 0, 2), (0, 0, 0), (False, 0, 1), (0, 0)):
            with self.assertRaises(InvalidSpot):
                Drawing((MIDDLE,)).covers(wrong)


class Common(unittest.TestCase):
    def check(self, one, other, dots, lines):
        one, other = Drawing(*one), Drawing(*other)
        self.assertEqual(common(one, other), (tuple(dots), tuple(lines)))
        self.assertEqual(common(other, one), (tuple(dots), tuple(lines)))

    def test_lines_that_overlap(self):
        self.check([line((0, 0), (4, 2))], [line((8, 4), (2, 1))], [], [line((2, 1), (4, 2))])
        self.check([line((0, 0), (9, 0))], [line((1, 0), (2, 0)), line((5, 0), (4, 0))], [],
                   [line((1, 0), (2, 0)), line((4, 0), (5, 0))])
        self.check([line((0, 0), (0, 3))], [line((0, 1), (0, 2))], [], [line((0, 1), (0, 2))])

    def test_lines_that_overlap_over_the_joints_of_parts(self):
        self.check([line((0, 0), (2, 0)), line((2, 0), (4, 0))], [line((1, 0), (3, 0)), line((3, 0), (5, 0))], [],
                   [line((1, 0), (4, 0))])

    def test_lines_that_cross(self):
        self.check([line((0, 0), (2, 2))], [line((0, 1), (2, 0))], [(2, 2, 3)], [])
        self.check([line((0, 0), (1, 1))], [line((2, 0), (2, 9))], [], [])
        self.check([line((0, 0), (9, 9))], [line((5, 0), (5, 4))], [], [])

    def test_lines_that_touch(self):
        self.check([line((0, 0), (2, 0))], [line((1, 0), (1, 3))], [ONE], [])
        self.check([line((0, 0), (2, 0))], [line((2, 0), (3, 3))], [at(2)], [])
        self.check([line((0, 0), (2, 0))], [line((2, 0), (5, 0))], [at(2)], [])

    def test_lines_that_do_not_meet(self):
        self.check([line((0, 0), (2, 0))], [line((3, 0), (5, 0))], [], [])
        self.check([line((0, 0), (2, 0))], [line((0, 1), (2, 1))], [], [])

    def test_dots(self):
        self.check([(ONE,), (I,), (at(5),)], [(I,), (at(5),), (at(6),)], [I, at(5)], [])
        self.check([line((0, 0), (2, 0)), (at(7),)], [(ONE,), (at(3),), (at(7),)], [ONE, at(7)], [])

    def test_dots_on_common_lines_are_not_told(self):
        self.check([line((0, 0), (4, 0))], [line((1, 0), (9, 0)), line((2, 0), (2, 3)), (at(3),)], [],
                   [line((1, 0), (4, 0))])

    def test_several_in_order(self):
        self.check([line((0, 0), (6, 0)), ((1, 9, 2),)],
                   [line((4, -1), (4, 1)), line((3, -1), (3, 2)), line((1, 0), (2, 0)), line((5, 0), (6, 0), (1, 9)),
                    ((1, 9, 2),), (MIDDLE,)],
                   [MIDDLE, (1, 9, 2), at(3), at(4)], [line((1, 0), (2, 0)), line((5, 0), (6, 0))])

    def test_with_nothing(self):
        self.check([], [line((0, 0), (1, 0)), (I,)], [], [])
        self.check([], [], [], [])


class WithinAndAlike(unittest.TestCase):
    def test_within(self):
        cross = Drawing(line((0, 0), (4, 0)), line((2, -2), (2, 2)), (at(9),))
        for strokes in ([], [line((1, 0), (3, 0))], [line((4, 0), (0, 0))], [line((0, 0), (2, 0), (2, 2))], [(at(9),)],
                        [((1, 0, 2),), line((2, 1), (2, 2))]):
            self.assertIs(within(Drawing(*strokes), cross), True, strokes)
        for strokes in ([line((1, 0), (5, 0))], [(at(8),)], [line((0, 0), (2, 2))], [line((0, 0), (9, 0))],
                        [(at(1),), (at(1, 1),)]):
            self.assertIs(within(Drawing(*strokes), cross), False, strokes)
        self.assertIs(within(cross, Drawing()), False)
        self.assertIs(within(cross, cross), True)

    def test_a_line_within_the_parts_of_several(self):
        self.assertIs(within(Drawing(line((0, 0), (3, 0))), Drawing(line((0, 0), (1, 0)), line((3, 0), (1, 0)))), True)
        self.assertIs(within(Drawing(line((0, 0), (3, 0))), Drawing(line((0, 0), (1, 0)), line((3, 0), (2, 0)))), False)

    def test_alike(self):
        one = Drawing(line((0, 0), (2, 0)), (ONE,))
        self.assertIs(alike(one, Drawing(line((1, 0), (2, 0)), line((1, 0), (0, 0)))), True)
        self.assertIs(alike(one, Drawing(line((0, 0), (2, 0)), (at(3),))), False)
        self.assertIs(alike(one, Drawing(line((0, 0), (3, 0)))), False)
        self.assertIs(alike(Drawing(), Drawing()), True)
        self.assertIs(alike(Drawing((ONE,)), Drawing((ONE,), (ONE,))), True)
        self.assertIs(alike(Drawing((ONE,)), Drawing()), False)
        self.assertIs(alike(Drawing(), Drawing((ONE,))), False)


class AgainstSingleSpots(unittest.TestCase):
    """All pairs of some small drawings, looked at spot by spot in a fine grid."""

    drawings = [
        Drawing(line((0, 0), (2, 0), (2, 2), (0, 0))),
        Drawing(line((0, 2), (2, 0)), line((1, 1), (1, 0)), (at(2, 2),)),
        Drawing(line((2, 2), (1, 1)), (at(0, 1),), ((1, 1, 2),)),
        Drawing(line((0, 0), (1, 2), (2, 0)), line((0, 1), (2, 1))),
        Drawing(((1, 0, 2), (3, 0, 2)), ((1, 1, 2), (1, 3, 2)), ((3, 3, 2),)),
        Drawing(line((0, 0), (1, 0)), line((2, 0), (1, 0)), line((2, 1), (2, 0))),
        Drawing((ONE,), (I,), ((2, 2, 3),), (at(1, 1),)),
    ]
    near = [spot_at(x, y, 6) for x in range(-1, 14) for y in range(-1, 14)]

    def test_covers(self):
        for drawing in self.drawings:
            for spot in self.near:
                self.assertEqual(drawing.covers(spot), is_covered_exactly(spot, drawing.strokes), spot)

    def test_ink_covers_the_same(self):
        for drawing in self.drawings:
            dots, lines = drawing.ink()
            for spot in self.near:
                self.assertEqual(drawing.covers(spot), is_covered_exactly(spot, ink_strokes(dots, lines)), spot)

    def test_common(self):
        for one, other in itertools.product(self.drawings, repeat=2):
            dots, lines = common(one, other)
            for spot in self.near:
                both = one.covers(spot) and other.covers(spot)
                self.assertEqual(is_covered_exactly(spot, ink_strokes(dots, lines)), both, spot)
            self.assertEqual(within(one, other), (dots, lines) == one.ink())
            self.assertEqual(alike(one, other), within(one, other) and within(other, one))


def ink_strokes(dots, lines):
    return [(dot,) for dot in dots] + list(lines)


def is_covered_exactly(spot, strokes):
    """Point 7 over again, by fractions."""
    x, y = exact(spot)
    for stroke in strokes:
        for start, end in zip(stroke, stroke[1:] or stroke):
            (a, b), (c, d) = exact(start), exact(end)
            if (c - a) * (y - b) == (d - b) * (x - a) and min(a, c) <= x <= max(a, c) and min(b, d) <= y <= max(b, d):
                return True
    return False


class Measure(unittest.TestCase):
    def test_least_and_greatest(self):
        drawing = Drawing(((0, 0, 1), (1, 3, 2)), ((-2, 4, 3),), line((0, -1), (0, 1)))
        self.assertEqual(measure(drawing), ((-2, 3), (1, 2), (-1, 1), (3, 2)))

    def test_lowest_terms(self):
        self.assertEqual(measure(Drawing(((2, 3, 6), (4, 1, 2)))), ((1, 3), (2, 1), (1, 2), (1, 2)))
        self.assertEqual(measure(Drawing(((0, -5, 10 ** 9 + 1),))),
                         ((0, 1), (0, 1), (-5, 10 ** 9 + 1), (-5, 10 ** 9 + 1)))

    def test_a_dot(self):
        self.assertEqual(measure(Drawing(((-3, 2, 4),))), ((-3, 4), (-3, 4), (1, 2), (1, 2)))

    def test_no_strokes(self):
        self.assertIsNone(measure(Drawing()))

    def test_numbers_of_any_size(self):
        less, more = (HUGE - 1, 0, HUGE), (HUGE, 0, HUGE + 1)
        self.assertEqual(measure(Drawing((more, less))), (less[::2], more[::2], (0, 1), (0, 1)))


class Area(unittest.TestCase):
    def test_counterclockwise_and_clockwise(self):
        square = line((1, 1), (3, 1), (3, 3), (1, 3), (1, 1))
        self.assertEqual([area(square), area(square[::-1])], [(4, 1), (-4, 1)])

    def test_fractions(self):
        self.assertEqual(area(((0, 0, 1), (1, 0, 2), (0, 1, 3), (0, 0, 1))), (1, 12))
        self.assertEqual(area(((1, 1, 2), (1, 1, 3), (1, 0, 1), (1, 1, 2))), (1, 12))
        self.assertEqual(area(line((0, 0), (1, 0), (0, 1), (0, 0))), (1, 2))

    def test_a_stroke_that_goes_round_nothing(self):
        self.assertEqual(area(line((1, 1), (2, 5), (1, 1))), (0, 1))

    def test_a_stroke_that_crosses_itself(self):
        self.assertEqual(area(line((0, 0), (2, 2), (2, 0), (0, 2), (0, 0))), (0, 1))

    def test_a_dot(self):
        self.assertEqual(area(((7, 1, 3),)), (0, 1))

    def test_open_stroke(self):
        for stroke in (line((0, 0), (1, 0)), line((0, 0), (1, 0), (0, 0), (1, 1))):
            with self.assertRaises(OpenStroke):
                area(stroke)

    def test_invalid_stroke_ahead_of_open_stroke(self):
        for wrong in WRONG_STROKES:
            with self.assertRaises(InvalidStroke, msg=wrong) as caught:
                area(wrong)
            self.assertEqual(caught.exception.index, 0)
