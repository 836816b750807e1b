"""Points 11, 12 and 13: chains, what they reach and draw, and single arms that do the same."""

import itertools
import unittest
from fractions import Fraction
from unittest import mock

from copyarms.arms import Arm, trace
from copyarms.chains import Chain, can_draw, needed_reach, reachable_spots, single, zones
from copyarms.copies import Copy
from copyarms.drawings import Drawing
from copyarms.errors import InvalidSize, OutOfReach, TooMany
from tests.exact import (
    HUGE, I, MIDDLE, NO_NUMBERS, ONE, as_fraction, at, exact, line, parts_exactly, pen_exactly, square, squares_exactly,
    told)

DOUBLE = Arm(MIDDLE, (2, 0, 1), 0, 9)
QUARTER = Arm(at(4), I, 1, 9)
OVER = Arm((0, 1, 2), (3, 4, 5), 1, 7, mirrored=True)
SHRINK = Arm((-1, 2, 3), (1, 0, 3), 0, 5)
LEAN = Arm(at(1, 1), (1, 1, 1), 1, 6)
MIRROR = Arm(at(0, 2), (0, -1, 1), 0, 8, mirrored=True)
ARMS = [DOUBLE, QUARTER, OVER, SHRINK, LEAN, MIRROR]
CHAINS = [Chain(), *[Chain(*several) for count in (1, 2, 3) for several in itertools.permutations(ARMS, count)],
          Chain(*ARMS), Chain(*ARMS[::-1])]
SPOTS = [MIDDLE, ONE, at(-3, 2), (1, 1, 2), (5, -2, 3)]
DRAWING = Drawing(line((0, 0), (2, 1), (-1, 1)), ((1, 3, 2),), ((1, 0, 3), (0, 1, 1)))


def missed(chain, drawing):
    """Where a chain cannot draw a drawing, or None."""
    try:
        chain.draw(drawing)
    except OutOfReach as error:
        return error.arm, error.stroke, error.part
    return None


class Parts(unittest.TestCase):
    def test_arms_length_and_index(self):
        chain = Chain(DOUBLE, QUARTER, DOUBLE)
        self.assertEqual(chain.arms, (DOUBLE, QUARTER, DOUBLE))
        self.assertIsInstance(chain.arms, tuple)
        self.assertEqual(len(chain), 3)
        self.assertEqual([chain[0], chain[1], chain[2]], [DOUBLE, QUARTER, DOUBLE])
        with self.assertRaises(IndexError):
            chain[3]

    def test_no_arms(self):
        self.assertEqual([Chain().arms, len(Chain())], [(), 0])
        with self.assertRaises(IndexError):
            Chain()[0]

    def test_six_arms_and_more(self):
        self.assertEqual(Chain(*ARMS).arms, tuple(ARMS))
        for count in (7, 8, 20):
            with self.assertRaises(TooMany):
                Chain(*[DOUBLE] * count)

    def test_it_cannot_be_iterated_over(self):
        chain = Chain(DOUBLE, QUARTER)
        with self.assertRaises(TypeError):
            iter(chain)
        with self.assertRaises(TypeError):
            list(chain)
        with self.assertRaises(TypeError):
            DOUBLE in chain

    def test_properties_cannot_be_assigned(self):
        for name in ("arms", "effect"):
            with self.assertRaises(AttributeError):
                setattr(Chain(DOUBLE), name, ())

    def test_sum(self):
        one, other = Chain(DOUBLE, QUARTER), Chain(OVER)
        self.assertEqual((one + other).arms, (DOUBLE, QUARTER, OVER))
        self.assertEqual((other + one).arms, (OVER, DOUBLE, QUARTER))
        self.assertEqual((one + Chain()).arms, one.arms)
        self.assertEqual((Chain() + one).arms, one.arms)
        self.assertEqual((one + other).effect, one.effect >> other.effect)
        self.assertEqual([one.arms, other.arms], [(DOUBLE, QUARTER), (OVER,)])

    def test_sum_of_too_many(self):
        one, other = Chain(*[DOUBLE] * 4), Chain(QUARTER, OVER, LEAN)
        self.assertEqual(len(one + Chain(QUARTER, OVER)), 6)
        for left, right in ((one, other), (other, one), (Chain(*ARMS), Chain(LEAN)), (Chain(*ARMS), Chain(*ARMS))):
            with self.assertRaises(TooMany):
                left + right
        self.assertEqual([one.arms, other.arms], [(DOUBLE,) * 4, (QUARTER, OVER, LEAN)])

    def test_equality_compares_the_arms(self):
        self.assertIs(Chain(DOUBLE, QUARTER) == Chain(Arm(MIDDLE, (2, 0, 1), 0, 9), QUARTER), True)
        self.assertIs(Chain(DOUBLE, QUARTER) != Chain(DOUBLE, QUARTER), False)
        self.assertIs(Chain() == Chain(), True)
        for other in (Chain(), Chain(DOUBLE), Chain(QUARTER, DOUBLE), Chain(DOUBLE, QUARTER, QUARTER),
                      Chain(Arm(MIDDLE, (2, 0, 1), 0, 8), QUARTER)):
            self.assertIs(Chain(DOUBLE, QUARTER) == other, False)
            self.assertIs(Chain(DOUBLE, QUARTER) != other, True)

    def test_equality_with_another_kind(self):
        for other in (None, 1, "chain", (DOUBLE,), [DOUBLE], DOUBLE, DOUBLE.effect, Drawing(), mock.ANY):
            self.assertIs(Chain(DOUBLE) == other, False)
            self.assertIs(Chain(DOUBLE) != other, True)
        for other in ((), [], Drawing(), None):
            self.assertIs(Chain() == other, False)

    def test_effect(self):
        self.assertEqual(told(Chain().effect), (ONE, MIDDLE, False))
        self.assertEqual(told(Chain(DOUBLE, QUARTER).effect), ((0, 2, 1), at(4, -4), False))
        self.assertEqual(told(Chain(QUARTER, DOUBLE).effect), ((0, 2, 1), at(8, -8), False))
        self.assertEqual(Chain(OVER).effect, OVER.effect)
        self.assertIs(Chain(OVER, DOUBLE).effect.mirrored, True)
        self.assertIs(Chain(OVER, MIRROR).effect.mirrored, False)

    def test_effect_is_one_pen_after_another(self):
        for chain, spot in itertools.product(CHAINS, SPOTS):
            copy, place = chain.effect, spot
            for arm in chain.arms:
                step = arm.effect
                place = step(place)
            self.assertEqual(copy(spot), place)


class Draw(unittest.TestCase):
    def test_what_the_last_pen_draws(self):
        chain = Chain(DOUBLE, QUARTER)
        drawing = Drawing(line((0, 0), (1, 0)), (at(1, 1),))
        self.assertEqual(chain.draw(drawing).strokes, (line((4, -4), (4, -2)), (at(2, -2),)))
        self.assertEqual(drawing.strokes, (line((0, 0), (1, 0)), (at(1, 1),)))

    def test_the_drawing_itself_without_arms(self):
        self.assertEqual(Chain().draw(DRAWING), DRAWING)
        self.assertEqual(Chain().draw(Drawing((at(HUGE),))).strokes, ((at(HUGE),),))

    def test_a_drawing_without_strokes(self):
        self.assertEqual(Chain(*ARMS).draw(Drawing()), Drawing())

    def test_one_arm_draws_as_its_pen(self):
        self.assertEqual(Chain(LEAN).draw(Drawing(line((2, 2), (2, 3)))), trace(LEAN, Drawing(line((2, 2), (2, 3)))))

    def test_out_of_reach_of_the_first_arm(self):
        chain = Chain(DOUBLE, QUARTER)
        self.assertEqual(missed(chain, Drawing((at(0, 1),), line((1, 1), (1, 9)))), (0, 1, 0))

    def test_out_of_reach_of_a_later_arm(self):
        chain = Chain(DOUBLE, DOUBLE, QUARTER)
        self.assertEqual(missed(chain, Drawing((at(0, 1),), line((0, 1), (0, 2), (0, 5)))), (1, 1, 1))
        self.assertEqual(missed(chain, Drawing((at(0, 1),), line((0, 1), (0, 2), (2, 2), (0, -2)))), (2, 1, 2))

    def test_the_first_arm_counts_ahead_of_the_first_stroke(self):
        chain = Chain(DOUBLE, QUARTER)
        # The second arm could not trace the first stroke, but the first arm misses the last one.
        self.assertEqual(missed(chain, Drawing((at(2),), (at(1),), line((1, 0), (10, 0)))), (0, 2, 0))
        self.assertEqual(missed(chain, Drawing((at(2),), (at(1),), line((1, 0), (0, 0)))), (1, 0, 0))

    def test_a_part_past_the_pole_of_a_later_arm(self):
        chain = Chain(DOUBLE, QUARTER)
        self.assertEqual(missed(chain, Drawing(line((1, 1), (1, 0), (3, 0)))), (1, 0, 1))
        self.assertIsNone(missed(chain, Drawing(((1, 1, 2), (7, 1, 2)))))

    def test_all_against_exact_fractions(self):
        for chain in CHAINS:
            self.assertEqual(missed(chain, DRAWING), missed_exactly(chain, DRAWING))
            if missed(chain, DRAWING) is None:
                self.assertEqual(chain.draw(DRAWING), DRAWING.copied(chain.effect))

    def test_an_error_changes_nothing(self):
        chain = Chain(DOUBLE, QUARTER)
        drawing = Drawing((at(2),))
        self.assertEqual([missed(chain, drawing), missed(chain, drawing)], [(1, 0, 0), (1, 0, 0)])
        self.assertEqual([chain.arms, drawing.strokes], [(DOUBLE, QUARTER), ((at(2),),)])


def missed_exactly(chain, drawing):
    """Point 11 over again, by fractions."""
    strokes = [parts_exactly(stroke) for stroke in drawing.strokes]
    for index, arm in enumerate(chain.arms):
        for number, parts in enumerate(strokes):
            for place, (start, end) in enumerate(parts):
                least, most = squares_exactly(exact(arm.pole), start, end)
                if least < arm.near ** 2 or most > arm.far ** 2:
                    return index, number, place
        strokes = [[(pen_exactly(arm, start), pen_exactly(arm, end)) for start, end in parts] for parts in strokes]
    return None


class Source(unittest.TestCase):
    def test_the_drawing_whose_copy_it_is(self):
        chain = Chain(DOUBLE, QUARTER)
        self.assertEqual(chain.source(Drawing(line((4, -4), (4, -2)), (at(2, -2),))).strokes,
                         (line((0, 0), (1, 0)), (at(1, 1),)))

    def test_mirrored_and_fractions(self):
        chain = Chain(Arm(I, (3, 0, 1), 0, 9, mirrored=True))
        self.assertEqual(chain.source(Drawing((ONE, I))).strokes, (((1, 4, 3), I),))

    def test_its_copy_is_the_drawing(self):
        for chain in CHAINS:
            self.assertEqual(chain.source(DRAWING).copied(chain.effect), DRAWING)
            self.assertEqual(chain.source(DRAWING.copied(chain.effect)), DRAWING)

    def test_whether_or_not_the_arms_reach_it(self):
        chain = Chain(Arm(MIDDLE, (2, 0, 1), 1, 1))
        drawing = Drawing(line((0, 0), (2000, 4)))
        self.assertEqual(chain.source(drawing).strokes, (line((0, 0), (1000, 2)),))
        self.assertIs(can_draw(chain, chain.source(drawing)), False)
        near = Drawing((at(2),))
        self.assertEqual(chain.draw(chain.source(near)), near)

    def test_without_arms(self):
        self.assertEqual(Chain().source(DRAWING), DRAWING)


class Zones(unittest.TestCase):
    def test_several_arms(self):
        chain = Chain(Arm(ONE, (2, 0, 1), 1, 3), Arm(ONE, I, 2, 5), Arm(at(3), (1, 0, 2), 0, 7))
        self.assertEqual(zones(chain), [(ONE, (1, 1), (9, 1)), (ONE, (1, 1), (25, 4)), (at(1, -1), (0, 1), (49, 4))])

    def test_mirrored_arms_and_fractions(self):
        chain = Chain(Arm(MIDDLE, (1, 1, 2), 0, 3, mirrored=True), Arm((1, 0, 2), (3, 0, 1), 1, 2), Arm(I, ONE, 3, 3))
        self.assertEqual(zones(chain), [(MIDDLE, (0, 1), (9, 1)), ((1, 1, 2), (2, 1), (8, 1)),
                                        ((2, 0, 3), (2, 1), (2, 1))])

    def test_without_arms(self):
        self.assertEqual(zones(Chain()), [])

    def test_each_arm_reaches_just_what_its_zone_tells(self):
        spots = [at(x, y) for x in range(-6, 7, 2) for y in range(-6, 7, 3)] + SPOTS
        for chain in CHAINS:
            told_zones = zones(chain)
            self.assertEqual(len(told_zones), len(chain))
            for spot in spots:
                place = spot
                for arm, (centre, near, far) in zip(chain.arms, told_zones):
                    within = Fraction(*near) <= square(exact(centre), exact(spot)) <= Fraction(*far)
                    self.assertEqual(arm.reaches(place), within)
                    step = arm.effect
                    place = step(place)

    def test_spots_and_fractions_are_in_lowest_terms(self):
        for chain in CHAINS:
            for centre, near, far in zones(chain):
                Copy(ONE, centre)
                self.assertEqual([near, far], [as_fraction(Fraction(*near)), as_fraction(Fraction(*far))])

    def test_the_list_is_the_callers(self):
        chain = Chain(DOUBLE, QUARTER)
        found = zones(chain)
        again = list(found)
        found.clear()
        self.assertEqual(zones(chain), again)
        self.assertEqual(chain.arms, (DOUBLE, QUARTER))


class ReachableSpots(unittest.TestCase):
    def test_limit_0(self):
        self.assertEqual(reachable_spots(Chain(), 0), [MIDDLE])
        self.assertEqual(reachable_spots(Chain(DOUBLE), 0), [MIDDLE])
        self.assertEqual(reachable_spots(Chain(Arm(MIDDLE, I, 1, 5)), 0), [])

    def test_limit_20(self):
        found = reachable_spots(Chain(), 20)
        self.assertEqual(found, [at(x, y) for x in range(-20, 21) for y in range(-20, 21)])
        self.assertEqual(reachable_spots(Chain(Arm(at(30), I, 0, 10)), 20), [at(20)])
        self.assertEqual(reachable_spots(Chain(Arm(MIDDLE, I, 25, 25)), 20),
                         [at(x, y) for x, y in ((-20, -15), (-20, 15), (-15, -20), (-15, 20),
                                                (15, -20), (15, 20), (20, -15), (20, 15))])

    def test_ascending_order(self):
        self.assertEqual(reachable_spots(Chain(), 1), [at(x, y) for x in (-1, 0, 1) for y in (-1, 0, 1)])

    def test_all_arms_must_reach(self):
        chain = Chain(Arm(MIDDLE, (2, 0, 1), 0, 1), Arm(at(2), I, 0, 2))
        self.assertEqual(reachable_spots(chain, 3), [at(0), at(1)])

    def test_invalid_size(self):
        for wrong in [-1, 21, 22, HUGE, -HUGE, *NO_NUMBERS]:
            for chain in (Chain(), Chain(DOUBLE)):
                with self.assertRaises(InvalidSize, msg=wrong):
                    reachable_spots(chain, wrong)

    def test_just_the_dots_that_can_be_drawn(self):
        for chain in CHAINS[::5]:
            expected = [at(x, y) for x in range(-4, 5) for y in range(-4, 5)
                        if missed(chain, Drawing((at(x, y),))) is None]
            self.assertEqual(reachable_spots(chain, 4), expected)

    def test_the_list_is_the_callers(self):
        chain = Chain(DOUBLE)
        found = reachable_spots(chain, 2)
        again = list(found)
        found.append(None)
        self.assertEqual(reachable_spots(chain, 2), again)


class NeededReach(unittest.TestCase):
    def check(self, arms, strokes, expected):
        self.assertEqual(needed_reach(Chain(*arms), Drawing(*strokes)), expected)

    def test_the_nearest_spot_is_between_two_ends(self):
        self.check([Arm(MIDDLE, I, 0, 9)], [line((-3, 2), (4, 2))], [((4, 1), (20, 1))])
        self.check([Arm(ONE, I, 0, 9)], [line((0, 0), (2, 2))], [((1, 2), (5, 1))])
        self.check([Arm(ONE, I, 0, 9)], [line((-1, 0), (2, 0))], [((0, 1), (4, 1))])

    def test_the_nearest_spot_is_an_end(self):
        self.check([Arm(MIDDLE, I, 0, 9)], [line((3, 2), (4, 2))], [((13, 1), (20, 1))])
        self.check([Arm(MIDDLE, I, 0, 9)], [line((-4, 0), (-1, 0))], [((1, 1), (16, 1))])
        self.check([Arm((1, 0, 2), I, 0, 9)], [((1, 1, 3), (2, 2, 3))], [((5, 36), (17, 36))])

    def test_a_dot(self):
        self.check([Arm(MIDDLE, I, 0, 9)], [((3, 1, 2),)], [((5, 2), (5, 2))])
        self.check([Arm(ONE, I, 5, 9)], [(ONE,)], [((0, 1), (0, 1))])

    def test_several_strokes(self):
        self.check([Arm(MIDDLE, I, 0, 9)], [line((3, 2), (4, 2)), (at(0, 1),), line((5, -5), (5, 5))], [((1, 1), (50, 1))])
        self.check([Arm(MIDDLE, I, 0, 9)], [((2, 0, 3),), ((1, 0, 2),), ((3, 0, 4),)], [((1, 4), (9, 16))])

    def test_a_drawing_without_strokes(self):
        self.check(ARMS, [], [None] * 6)
        self.check([DOUBLE], [], [None])

    def test_without_arms(self):
        self.check([], [line((0, 0), (1, 1))], [])
        self.check([], [], [])

    def test_each_arm_gets_what_the_pen_ahead_draws(self):
        self.check([DOUBLE, QUARTER, Arm(at(0, -4), (2, 0, 1), 0, 9, mirrored=True)], [line((0, 0), (3, 0))],
                   [((0, 1), (9, 1)), ((0, 1), (16, 1)), ((16, 1), (52, 1))])

    def test_whether_or_not_an_arm_reaches(self):
        never = Arm(MIDDLE, (2, 0, 1), 5, 5)
        self.check([never, QUARTER], [line((0, 0), (3, 0))], [((0, 1), (9, 1)), ((0, 1), (16, 1))])
        self.check([never, never, never], [(at(HUGE),)],
                   [((HUGE ** 2, 1),) * 2, ((4 * HUGE ** 2, 1),) * 2, ((16 * HUGE ** 2, 1),) * 2])

    def test_all_against_exact_fractions(self):
        for chain in CHAINS:
            coming, expected = DRAWING, []
            for arm in chain.arms:
                squares = [squares_exactly(exact(arm.pole), start, end)
                           for stroke in coming.strokes for start, end in parts_exactly(stroke)]
                expected.append((as_fraction(min(least for least, _ in squares)),
                                 as_fraction(max(most for _, most in squares))))
                coming = coming.copied(arm.effect)
            self.assertEqual(needed_reach(chain, DRAWING), expected)

    def test_the_list_is_the_callers(self):
        chain = Chain(DOUBLE)
        found = needed_reach(chain, DRAWING)
        again = list(found)
        found.clear()
        self.assertEqual(needed_reach(chain, DRAWING), again)


class CanDraw(unittest.TestCase):
    def test_both_ways(self):
        chain = Chain(DOUBLE, QUARTER)
        self.assertIs(can_draw(chain, Drawing(line((0, 0), (1, 0)), (at(1, 1),))), True)
        self.assertIs(can_draw(chain, Drawing(line((0, 0), (1, 0)), (at(2),))), False)
        self.assertIs(can_draw(chain, Drawing(line((1, 0), (3, 0)))), False)
        self.assertIs(can_draw(chain, Drawing((at(10),))), False)

    def test_nothing_and_no_arms(self):
        self.assertIs(can_draw(Chain(*ARMS), Drawing()), True)
        self.assertIs(can_draw(Chain(), Drawing((at(HUGE),))), True)

    def test_all_chains(self):
        for chain in CHAINS:
            self.assertIs(can_draw(chain, DRAWING), missed_exactly(chain, DRAWING) is None)


class Single(unittest.TestCase):
    def check(self, arms, pole):
        chain = Chain(*arms)
        arm = single(chain)
        self.assertIsInstance(arm, Arm)
        self.assertEqual((arm.pole, arm.near, arm.far), (pole, 0, 1000))
        self.assertEqual(told(arm.effect), told(chain.effect))

    def arm(self, pole, turn, mirrored=False):
        return Arm(pole, turn, 2, 3, mirrored=mirrored)

    def test_one_pole(self):
        self.check([DOUBLE], MIDDLE)
        self.check([QUARTER], at(4))
        self.check([self.arm(ONE, (2, 0, 1)), self.arm(at(5), (2, 0, 1))], (7, 0, 3))
        self.check([self.arm(ONE, I), self.arm(MIDDLE, I)], (1, 1, 2))

    def test_one_pole_of_mirrored_chains(self):
        self.check([self.arm(at(3, 5), (0, 2, 1), True)], at(3, 5))
        self.check([self.arm(ONE, (2, 0, 1)), self.arm(I, ONE, True)], (3, 2, 3))
        self.check([self.arm(I, (0, 1, 2), True), self.arm(ONE, (3, 0, 1))], (-4, 9, 5))

    def test_several_poles(self):
        self.check([self.arm(at(3, 4), ONE, True)], at(0, 4))
        self.check([self.arm(at(3, 4), (-1, 0, 1), True)], at(3))
        self.check([self.arm(at(3), I, True)], (3, -3, 2))
        self.check([self.arm(at(3), (3, 4, 5), True)], (3, -6, 5))
        self.check([self.arm(at(2, 2), I, True)], MIDDLE)
        self.check([self.arm(at(1), I), self.arm(at(1), I), self.arm(at(7), ONE, True)], at(1))

    def test_every_spot_is_a_pole(self):
        self.check([], MIDDLE)
        self.check([self.arm(at(3, 4), ONE)], MIDDLE)
        self.check([self.arm(at(3), (2, 0, 1)), self.arm(at(3), (1, 0, 2))], MIDDLE)
        self.check([self.arm(at(3), I, True), self.arm(at(3), I, True)], MIDDLE)

    def test_none(self):
        for arms in ([self.arm(ONE, (2, 0, 1)), self.arm(MIDDLE, (1, 0, 2))],
                     [self.arm(ONE, (-1, 0, 1)), self.arm(MIDDLE, (-1, 0, 1))],
                     [self.arm(MIDDLE, ONE, True), self.arm(I, ONE, True)],
                     [self.arm(MIDDLE, (2, 0, 1), True), self.arm(ONE, (1, 0, 2))],
                     [self.arm(at(1), I), self.arm(at(1), I), self.arm(at(7, 5), ONE, True)]):
            self.assertTrue(kept_is_empty(Chain(*arms).effect))
            self.assertIsNone(single(Chain(*arms)))

    def test_the_nearest_pole_of_all(self):
        for chain in CHAINS:
            arm = single(chain)
            if arm is None:
                self.assertTrue(kept_is_empty(chain.effect))
                continue
            copy = chain.effect
            self.assertEqual(told(arm.effect), told(copy))
            least = square(exact(arm.pole), (0, 0))
            for spot in [at(x, y) for x in range(-3, 4) for y in range(-3, 4)]:
                if copy(spot) == spot:
                    self.assertLessEqual(least, square(exact(spot), (0, 0)))


def kept_is_empty(copy):
    """Whether a copy keeps no spot: it only shifts, along the line of its mirror if it is mirrored."""
    x, y, d = copy.turn
    if x * x + y * y != d * d:
        return False
    if not copy.mirrored:
        return copy.turn == ONE and copy.shift != MIDDLE
    twice = copy >> copy
    return twice.shift != MIDDLE
