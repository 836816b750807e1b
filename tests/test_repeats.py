"""Point 14: what copies of copies cover, and when they come to be within a drawing."""

import unittest

from copyarms.copies import Copy
from copyarms.drawings import Drawing, within
from copyarms.errors import InvalidTimes
from copyarms.repeats import first_within, repeated_ink
from tests.exact import HUGE, I, MIDDLE, NO_NUMBERS, ONE, at, line

ASIDE = Copy(ONE, ONE)
HALF = Copy((1, 0, 2), MIDDLE)
QUARTER = Copy(I, MIDDLE)
MIRROR = Copy(ONE, at(0, 2), mirrored=True)
WRONG_TIMES = [-1, 21, 22, 100, HUGE, -HUGE, *NO_NUMBERS]


class RepeatedInk(unittest.TestCase):
    def test_0_times_is_the_drawing_alone(self):
        drawing = Drawing(line((3, 1), (0, 1)), (ONE,), (at(1, 1),))
        self.assertEqual(repeated_ink(ASIDE, drawing, 0), ((ONE,), (line((0, 1), (3, 1)),)))
        self.assertEqual(repeated_ink(HALF, Drawing(), 0), ((), ()))

    def test_each_copy_is_covered(self):
        self.assertEqual(repeated_ink(QUARTER, Drawing((ONE,)), 1), ((I, ONE), ()))
        self.assertEqual(repeated_ink(QUARTER, Drawing((ONE,)), 2), ((at(-1), I, ONE), ()))
        self.assertEqual(repeated_ink(QUARTER, Drawing((ONE,)), 3), ((at(-1), at(0, -1), I, ONE), ()))
        self.assertEqual(repeated_ink(QUARTER, Drawing((ONE,)), 20), ((at(-1), at(0, -1), I, ONE), ()))

    def test_lines_that_touch_become_one(self):
        self.assertEqual(repeated_ink(ASIDE, Drawing(line((0, 0), (1, 0))), 3), ((), (line((0, 0), (4, 0)),)))
        self.assertEqual(repeated_ink(HALF, Drawing(line((4, 0), (8, 0))), 3), ((), (((1, 0, 2), at(8)),)))

    def test_dots_on_the_lines_of_copies(self):
        self.assertEqual(repeated_ink(ASIDE, Drawing(line((0, 0), (1, 0)), (at(3),)), 1),
                         ((at(3), at(4)), (line((0, 0), (2, 0)),)))
        self.assertEqual(repeated_ink(ASIDE, Drawing(line((0, 0), (1, 0)), (at(3),)), 3),
                         ((at(5), at(6)), (line((0, 0), (4, 0)),)))

    def test_a_mirrored_copy(self):
        self.assertEqual(repeated_ink(MIRROR, Drawing(line((0, 0), (1, 1))), 1),
                         ((), (line((0, 0), (1, 1)), line((0, 2), (1, 1)))))

    def test_20_times(self):
        dots, lines = repeated_ink(ASIDE, Drawing((MIDDLE,)), 20)
        self.assertEqual((dots, lines), (tuple([at(x) for x in range(21)]), ()))
        dots, lines = repeated_ink(Copy((2, 0, 1), MIDDLE), Drawing(line((1, 0), (1, 1))), 20)
        self.assertEqual((dots, lines), ((), tuple([line((2 ** n, 0), (2 ** n, 2 ** n)) for n in range(21)])))

    def test_more_than_12_strokes_together(self):
        drawing = Drawing(*[(at(x, 1),) for x in range(12)])
        dots, lines = repeated_ink(Copy(ONE, at(12)), drawing, 20)
        self.assertEqual((dots, lines), (tuple([at(x, 1) for x in range(252)]), ()))

    def test_a_drawing_without_strokes(self):
        self.assertEqual(repeated_ink(ASIDE, Drawing(), 20), ((), ()))

    def test_invalid_times(self):
        for wrong in WRONG_TIMES:
            for drawing in (Drawing(), Drawing((ONE,))):
                with self.assertRaises(InvalidTimes, msg=wrong):
                    repeated_ink(ASIDE, drawing, wrong)

    def test_repeated_calls(self):
        drawing = Drawing(line((0, 0), (1, 0)), (at(3),))
        self.assertEqual(repeated_ink(HALF, drawing, 4), repeated_ink(HALF, drawing, 4))
        self.assertEqual(drawing.strokes, (line((0, 0), (1, 0)), (at(3),)))


class FirstWithin(unittest.TestCase):
    def test_0_times(self):
        self.assertEqual(first_within(HALF, Drawing((ONE,)), Drawing(line((0, 0), (2, 0))), 0), 0)
        self.assertEqual(first_within(HALF, Drawing((ONE,)), Drawing(line((0, 0), (2, 0))), 20), 0)
        self.assertIsNone(first_within(HALF, Drawing((at(3),)), Drawing(line((0, 0), (2, 0))), 0))

    def test_the_least_number(self):
        goal = Drawing((at(3),), line((5, 0), (9, 0)))
        self.assertEqual(first_within(ASIDE, Drawing((MIDDLE,)), goal, 20), 3)
        self.assertEqual(first_within(ASIDE, Drawing(line((0, 0), (1, 0))), goal, 20), 5)
        self.assertEqual(first_within(ASIDE, Drawing((MIDDLE,), (at(2),)), goal, 20), 3)
        self.assertEqual(first_within(QUARTER, Drawing((ONE,)), Drawing((at(0, -1),)), 20), 3)

    def test_at_most_so_many_times(self):
        goal = Drawing((at(20),))
        self.assertEqual(first_within(ASIDE, Drawing((MIDDLE,)), goal, 20), 20)
        self.assertIsNone(first_within(ASIDE, Drawing((MIDDLE,)), goal, 19))
        self.assertIsNone(first_within(ASIDE, Drawing((at(-1),)), goal, 20))
        self.assertEqual(first_within(ASIDE, Drawing((at(17),)), goal, 3), 3)
        self.assertIsNone(first_within(ASIDE, Drawing((at(17),)), goal, 2))

    def test_none(self):
        self.assertIsNone(first_within(HALF, Drawing((ONE,)), Drawing(), 20))
        self.assertIsNone(first_within(ASIDE, Drawing(line((0, 0), (1, 1))), Drawing(line((0, 0), (30, 0))), 20))

    def test_a_mirrored_copy(self):
        self.assertEqual(first_within(MIRROR, Drawing((MIDDLE,)), Drawing((at(0, 2),)), 20), 1)

    def test_only_the_last_copy_must_be_within(self):
        self.assertEqual(first_within(ASIDE, Drawing((MIDDLE,), (at(1),)), Drawing((at(1),), (at(2),)), 20), 1)

    def test_a_drawing_without_strokes(self):
        self.assertEqual(first_within(ASIDE, Drawing(), Drawing(), 5), 0)
        self.assertEqual(first_within(ASIDE, Drawing(), Drawing((ONE,)), 0), 0)

    def test_invalid_times(self):
        for wrong in WRONG_TIMES:
            for drawing in (Drawing(), Drawing((ONE,))):
                with self.assertRaises(InvalidTimes, msg=wrong):
                    first_within(ASIDE, drawing, drawing, wrong)

    def test_all_against_doing_them_one_after_another(self):
        drawing = Drawing(line((8, 8), (8, 4)), (at(16),))
        goal = Drawing(line((1, 1), (1, -1), (-1, -1)), line((0, 0), (9, 0)), line((0, 9), (0, 0)), line((4, -9), (4, 9)))
        for copy in (ASIDE, HALF, QUARTER, MIRROR, Copy((0, 1, 2), MIDDLE)):
            found = [times for times in range(21) if within(drawing.copied(copy.again(times)), goal)]
            self.assertEqual(first_within(copy, drawing, goal, 20), found[0] if found else None)
