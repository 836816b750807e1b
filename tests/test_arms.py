"""Points 9 and 10: arms, what they reach, and what their pens draw."""

import itertools
import unittest
from unittest import mock

from copyarms.arms import Arm, trace
from copyarms.copies import Copy, kept
from copyarms.drawings import Drawing
from copyarms.errors import InvalidReach, InvalidSpot, InvalidTurn, OutOfReach
from tests.exact import (
    HUGE, I, MIDDLE, NO_NUMBERS, NO_SPOTS, ONE, at, exact, line, parts_exactly, pen_exactly, square, squares_exactly,
    told)

POLES = [MIDDLE, at(1), (1, -3, 2), (-2, 5, 3), at(7, -7)]
TURNS = [ONE, I, (2, 0, 1), (1, 0, 2), (-1, 3, 2), (3, 4, 5), (-1, 0, 1)]
ARMS = [Arm(pole, turn, 1, 4, mirrored=mirrored) for pole in POLES for turn in TURNS for mirrored in (False, True)]
SPOTS = [MIDDLE, ONE, I, at(4, -3), (1, 1, 2), (-7, 2, 3), (3, 4, 5)]


class Pen(unittest.TestCase):
    def test_where_the_pen_is(self):
        copy = Arm(at(1, 2), (0, 2, 1), 0, 9).effect
        self.assertEqual(copy(at(2, 2)), at(1, 4))
        self.assertEqual(copy(at(1, 5)), at(-5, 2))
        self.assertEqual(copy((3, 4, 2)), (1, 3, 1))

    def test_where_the_pen_of_a_mirrored_arm_is(self):
        copy = Arm(at(1, 2), (0, 2, 1), 0, 9, mirrored=True).effect
        self.assertEqual(copy(at(2, 2)), at(1, 4))
        self.assertEqual(copy(at(1, 5)), at(7, 2))
        self.assertEqual(copy(MIDDLE), at(-3, 0))

    def test_all_against_exact_fractions(self):
        for arm, spot in itertools.product(ARMS, SPOTS):
            copy = arm.effect
            self.assertEqual(exact(copy(spot)), pen_exactly(arm, exact(spot)))

    def test_effect_is_the_copy_of_the_turn(self):
        self.assertEqual(told(Arm((1, 0, 2), (3, 0, 1), 0, 0).effect), ((3, 0, 1), (-1, 0, 1), False))
        self.assertEqual(told(Arm((0, 1, 2), (3, 0, 1), 0, 0, mirrored=True).effect), ((3, 0, 1), (0, 2, 1), True))
        self.assertIsInstance(ARMS[0].effect, Copy)

    def test_the_pole_is_kept(self):
        for arm in ARMS:
            copy = arm.effect
            self.assertEqual(copy(arm.pole), arm.pole)
            self.assertNotEqual(kept(copy), ("none",))

    def test_the_reach_is_nothing_to_the_effect(self):
        self.assertEqual(Arm(ONE, I, 0, 0).effect, Arm(ONE, I, 5, 1000).effect)

    def test_numbers_of_any_size(self):
        copy = Arm((HUGE, 1, 3), (HUGE, 0, 1), 0, 1).effect
        self.assertEqual(copy((HUGE + 3, 1, 3)), (4 * HUGE, 1, 3))


class Properties(unittest.TestCase):
    def test_they_are_the_parameters(self):
        arm = Arm((1, 2, 3), (-1, 0, 2), 3, 14, mirrored=True)
        self.assertEqual([arm.pole, arm.turn, arm.near, arm.far], [(1, 2, 3), (-1, 0, 2), 3, 14])
        self.assertIs(arm.mirrored, True)
        self.assertIs(Arm(ONE, I, 0, 1).mirrored, False)

    def test_they_cannot_be_assigned(self):
        for name in ("pole", "turn", "near", "far", "mirrored", "effect"):
            with self.assertRaises(AttributeError):
                setattr(Arm(ONE, I, 0, 1), name, 1)

    def test_mirrored_is_passed_by_name_only(self):
        with self.assertRaises(TypeError):
            Arm(ONE, I, 0, 1, True)

    def test_repeated_readings(self):
        arm = Arm((1, 2, 3), (-1, 0, 2), 3, 14, mirrored=True)
        self.assertEqual(arm.effect, arm.effect)


class WrongParameters(unittest.TestCase):
    def test_reaches_that_can_be(self):
        for near, far in ((0, 0), (0, 1000), (1000, 1000), (7, 7), (999, 1000)):
            arm = Arm(ONE, I, near, far)
            self.assertEqual((arm.near, arm.far), (near, far))

    def test_invalid_reach(self):
        for near, far in ((2, 1), (1, 0), (-1, 5), (-2, -1), (0, 1001), (1001, 1001), (0, HUGE), (-HUGE, 0), (1000, 999)):
            with self.assertRaises(InvalidReach, msg=(near, far)):
                Arm(ONE, I, near, far)

    def test_invalid_reach_for_what_is_no_integer(self):
        for wrong in NO_NUMBERS:
            with self.assertRaises(InvalidReach, msg=wrong):
                Arm(ONE, I, wrong, 5)
            with self.assertRaises(InvalidReach, msg=wrong):
                Arm(ONE, I, 0, wrong)

    def test_invalid_spot(self):
        for wrong in NO_SPOTS:
            with self.assertRaises(InvalidSpot, msg=wrong):
                Arm(wrong, I, 0, 5)

    def test_invalid_turn(self):
        for wrong in [*NO_SPOTS, MIDDLE]:
            with self.assertRaises(InvalidTurn, msg=wrong):
                Arm(ONE, wrong, 0, 5)

    def test_the_order_of_the_errors(self):
        for near, far in ((0, 5), (2, 1), (True, 5)):
            with self.assertRaises(InvalidSpot):
                Arm((2, 0, 2), MIDDLE, near, far)
            with self.assertRaises(InvalidSpot):
                Arm((2, 0, 2), I, near, far)
            with self.assertRaises(InvalidTurn):
                Arm(MIDDLE, MIDDLE, near, far)


class Reaches(unittest.TestCase):
    def test_just_near_and_just_far_and_beyond(self):
        arm = Arm(at(1, 1), I, 5, 10)
        for spot in (at(6, 1), at(1, -4), at(4, 5), at(-2, -3), at(11, 1), at(7, 9), at(-7, -5), at(7, 1)):
            self.assertIs(arm.reaches(spot), True, spot)
        for spot in (at(1, 1), at(5, 1), at(4, 4), at(12, 1), at(7, 10), at(-8, -5)):
            self.assertIs(arm.reaches(spot), False, spot)

    def test_spots_that_are_not_whole(self):
        arm = Arm(MIDDLE, I, 1, 2)
        for spot in ((3, 4, 5), (-5, 12, 13), (6, 8, 5), (-24, 10, 13), (3, 3, 4), (HUGE + 1, 0, HUGE), (0, 1 - 2 * HUGE, HUGE)):
            self.assertIs(arm.reaches(spot), True, spot)
        for spot in ((3, 3, 5), (7, 7, 10), (3, 3, 2), (7, 8, 5), (HUGE - 1, 0, HUGE), (0, -1 - 2 * HUGE, HUGE)):
            self.assertIs(arm.reaches(spot), False, spot)

    def test_a_pole_that_is_not_whole(self):
        arm = Arm((1, 1, 2), I, 1, 1)
        self.assertIs(arm.reaches((3, 1, 2)), True)
        self.assertIs(arm.reaches((11, 13, 10)), True)
        self.assertIs(arm.reaches(ONE), False)

    def test_near_0_and_far_0(self):
        self.assertIs(Arm(ONE, I, 0, 0).reaches(ONE), True)
        self.assertIs(Arm(ONE, I, 0, 0).reaches((HUGE + 1, 0, HUGE)), False)
        self.assertIs(Arm(ONE, I, 0, 1000).reaches(at(601, 800)), True)
        self.assertIs(Arm(ONE, I, 0, 1000).reaches(at(602, 800)), False)

    def test_turn_and_mirroring_are_nothing_to_it(self):
        for arm, spot in itertools.product(ARMS, SPOTS):
            self.assertEqual(arm.reaches(spot), 1 <= square(exact(arm.pole), exact(spot)) <= 16)

    def test_invalid_spot(self):
        for wrong in NO_SPOTS:
            with self.assertRaises(InvalidSpot, msg=wrong):
                Arm(ONE, I, 0, 5).reaches(wrong)


class Equality(unittest.TestCase):
    def test_equal_arms(self):
        one = Arm((1, 0, 2), I, 1, 5, mirrored=True)
        other = Arm((1, 0, 2), I, 1, 5, mirrored=True)
        self.assertIs(one == other, True)
        self.assertIs(one != other, False)

    def test_each_part_can_differ(self):
        arm = Arm(ONE, I, 1, 5)
        for other in (Arm(I, I, 1, 5), Arm(ONE, (0, -1, 1), 1, 5), Arm(ONE, I, 0, 5), Arm(ONE, I, 1, 6),
                      Arm(ONE, I, 1, 5, mirrored=True)):
            self.assertIs(arm == other, False)
            self.assertIs(arm != other, True)

    def test_arms_with_one_effect_differ_by_their_poles(self):
        one, other = Arm(MIDDLE, ONE, 1, 5), Arm(at(3), ONE, 1, 5)
        self.assertEqual(one.effect, other.effect)
        self.assertIs(one == other, False)

    def test_a_value_of_another_kind(self):
        arm = Arm(ONE, I, 1, 5)
        for other in (None, 1, "arm", (ONE, I, 1, 5, False), [arm], arm.effect, Drawing(), mock.ANY):
            self.assertIs(arm == other, False)
            self.assertIs(arm != other, True)


class Trace(unittest.TestCase):
    def check_missed(self, arm, strokes, stroke, part):
        drawing = Drawing(*strokes)
        with self.assertRaises(OutOfReach) as caught:
            trace(arm, drawing)
        error = caught.exception
        self.assertEqual((error.arm, error.stroke, error.part), (0, stroke, part))
        self.assertEqual(drawing.strokes, tuple(strokes))

    def test_what_the_pen_draws(self):
        arm = Arm(ONE, (0, 2, 1), 0, 9)
        drawing = Drawing(line((0, 0), (2, 0), (2, 1)), ((1, 1, 2),))
        self.assertEqual(trace(arm, drawing).strokes, (line((1, -2), (1, 2), (-1, 2)), (at(0, -1),)))
        self.assertEqual(drawing.strokes, (line((0, 0), (2, 0), (2, 1)), ((1, 1, 2),)))

    def test_what_the_pen_of_a_mirrored_arm_draws(self):
        arm = Arm(I, (2, 0, 1), 0, 9, mirrored=True)
        drawing = Drawing(line((0, 0), (2, 2)), (I,))
        self.assertEqual(trace(arm, drawing).strokes, (line((0, 3), (4, -1)), (I,)))

    def test_what_all_pens_draw(self):
        drawing = Drawing(line((0, 0), (2, 0), (2, 1)), ((1, 1, 2),))
        for arm in ARMS:
            drawn = trace(Arm(arm.pole, arm.turn, 0, 100, mirrored=arm.mirrored), drawing)
            self.assertEqual([[exact(spot) for spot in stroke] for stroke in drawn.strokes],
                             [[pen_exactly(arm, exact(spot)) for spot in stroke] for stroke in drawing.strokes])

    def test_no_strokes(self):
        self.assertEqual(trace(Arm(ONE, I, 5, 5), Drawing()), Drawing())

    def test_a_dot_is_the_one_part_0(self):
        arm = Arm(MIDDLE, ONE, 1, 5)
        self.assertEqual(trace(arm, Drawing((ONE,), (at(3, 4),))).strokes, ((ONE,), (at(3, 4),)))
        self.check_missed(arm, [(MIDDLE,)], 0, 0)
        self.check_missed(arm, [((1, 0, 2),)], 0, 0)
        self.check_missed(arm, [(ONE,), (at(5, 1),)], 1, 0)

    def test_ends_within_reach_but_past_the_pole(self):
        arm = Arm(MIDDLE, ONE, 2, 9)
        self.check_missed(arm, [line((-3, 0), (3, 0))], 0, 0)
        self.check_missed(arm, [line((-3, 1), (3, 1))], 0, 0)
        self.check_missed(arm, [line((3, 0), (0, 2))], 0, 0)
        self.check_missed(arm, [line((0, 3), (1, -8))], 0, 0)

    def test_the_nearest_spot_of_the_line_is_not_on_the_part(self):
        arm = Arm(MIDDLE, ONE, 2, 9)
        for stroke in (line((2, 0), (5, 0)), line((5, 0), (2, 0)), line((2, 1), (6, 1)), line((-2, 1), (-6, 1))):
            self.assertEqual(trace(arm, Drawing(stroke)).strokes, (stroke,))

    def test_a_part_that_just_touches_the_nearest_circle(self):
        for stroke in (line((-3, 2), (3, 2)), line((2, 5), (2, -5)), ((-6, 17, 5), (18, -1, 5)), line((2, 0), (2, 7))):
            self.assertEqual(trace(Arm(MIDDLE, ONE, 2, 9), Drawing(stroke)).strokes, (stroke,))
            self.check_missed(Arm(MIDDLE, ONE, 3, 9), [stroke], 0, 0)
        self.check_missed(Arm(MIDDLE, ONE, 2, 9), [((-3 * HUGE, 2 * HUGE - 1, HUGE), (3 * HUGE, 2 * HUGE - 1, HUGE))], 0, 0)

    def test_a_part_that_just_touches_the_furthest_circle(self):
        arm = Arm(ONE, ONE, 0, 5)
        self.assertEqual(len(trace(arm, Drawing(line((4, 4), (-4, 0), (6, 0))))), 1)
        self.check_missed(arm, [((4, 4, 1), (HUGE * 6 + 1, 0, HUGE))], 0, 0)

    def test_the_first_stroke_and_the_first_part_of_it(self):
        arm = Arm(MIDDLE, ONE, 1, 5)
        fine = line((3, 0), (3, 1), (3, 2))
        self.check_missed(arm, [fine, line((2, 0), (3, 0), (4, 0), (5, 0), (6, 0)), line((9, 9), (8, 8))], 1, 3)
        self.check_missed(arm, [fine, fine, line((2, 0), (-2, 0), (2, 1), (9, 9)), (MIDDLE,)], 2, 0)
        self.check_missed(arm, [fine, line((2, 0), (2, 2), (-2, -2), (9, 9))], 1, 1)
        self.check_missed(arm, [(MIDDLE,), line((9, 9), (8, 8))], 0, 0)
        self.check_missed(arm, [line((5, 0), (6, 0)), (MIDDLE,)], 0, 0)

    def test_all_against_exact_fractions(self):
        ends = [at(x, y) for x in range(-2, 3) for y in range(-2, 3)]
        for pole, near, far in ((MIDDLE, 1, 2), ((1, 1, 2), 1, 3), ((1, -1, 3), 0, 2), (at(1, 2), 2, 4)):
            arm = Arm(pole, (1, 1, 1), near, far)
            for start, end in itertools.permutations(ends, 2):
                least, most = squares_exactly(exact(pole), *parts_exactly((start, end))[0])
                if near ** 2 <= least and most <= far ** 2:
                    self.assertEqual(trace(arm, Drawing((start, end))), Drawing((start, end)).copied(arm.effect))
                else:
                    self.check_missed(arm, [(start, end)], 0, 0)
