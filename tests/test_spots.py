"""Point 2: spots, turns, fractions, and the order of spots."""

import itertools
import unittest
from fractions import Fraction

from copyarms.copies import Copy
from copyarms.drawings import Drawing
from copyarms.errors import InvalidSpot, InvalidStroke, InvalidTurn
from copyarms.spots import ascending, ascending_fractions, ascending_pairs, fraction, precedes, solution, spot_at

ONE = (1, 0, 1)
MIDDLE = (0, 0, 1)
HUGE = 10 ** 60

SPOTS = [
    (0, 0, 1), (3, -4, 1), (1, 0, 2), (2, 2, 3), (-2, 4, 5), (0, 5, 2), (6, 10, 15), (-7, -7, 1),
    (HUGE, HUGE + 1, 1), (HUGE, 0, HUGE + 1),
]

NO_SPOTS = [
    (2, 0, 2), (0, 0, 2), (2, 4, 6), (-3, 6, 3), (0, 5, 5), (HUGE, HUGE, 2),
    (1, 0, 0), (0, 0, 0), (1, 0, -1), (1, 1, -2),
    (True, 0, 1), (0, True, 1), (1, 0, True), (False, 0, 1), (0, False, 1), (1, 0, False),
    (), (1,), (1, 0), (1, 0, 1, 1), (0, 0, 1, 0),
    ("1", 0, 1), (1, None, 1), (1, 0, "1"), (1.0, 0, 1), ((1, 0, 1), 0, 1),
]


def exact(spot):
    return Fraction(spot[0], spot[2]), Fraction(spot[1], spot[2])


class WhatASpotIs(unittest.TestCase):
    def test_spots_are_taken(self):
        for spot in SPOTS:
            self.assertEqual(Copy(ONE, MIDDLE)(spot), spot)
            self.assertEqual(Copy(ONE, spot).shift, spot)
            self.assertTrue(Drawing((spot,)).covers(spot))

    def test_other_tuples_raise_invalid_spot(self):
        for wrong in NO_SPOTS:
            with self.assertRaises(InvalidSpot, msg=wrong):
                Copy(ONE, wrong)
            with self.assertRaises(InvalidSpot, msg=wrong):
                Copy(ONE, MIDDLE)(wrong)
            with self.assertRaises(InvalidSpot, msg=wrong):
                Drawing().covers(wrong)
            with self.assertRaises(InvalidStroke, msg=wrong):
                Drawing((wrong,))

    def test_turns_are_taken(self):
        for turn in SPOTS[1:]:
            self.assertEqual(Copy(turn, MIDDLE).turn, turn)

    def test_other_tuples_and_zero_raise_invalid_turn(self):
        for wrong in [*NO_SPOTS, MIDDLE]:
            with self.assertRaises(InvalidTurn, msg=wrong):
                Copy(wrong, MIDDLE)

    def test_the_turn_is_checked_ahead_of_the_shift(self):
        with self.assertRaises(InvalidTurn):
            Copy((0, 0, 1), (2, 0, 2))
        with self.assertRaises(InvalidSpot):
            Copy((0, 1, 1), (2, 0, 2), mirrored=True)


class LowestTerms(unittest.TestCase):
    def test_spots(self):
        self.assertEqual(spot_at(4, -6, 8), (2, -3, 4))
        self.assertEqual(spot_at(4, -6, -2), (-2, 3, 1))
        self.assertEqual(spot_at(0, 0, -9), (0, 0, 1))

    def test_fractions(self):
        self.assertEqual(fraction(6, 4), (3, 2))
        self.assertEqual(fraction(6, -4), (-3, 2))
        self.assertEqual(fraction(0, -7), (0, 1))


class OrderOfSpots(unittest.TestCase):
    def test_by_x_then_by_y_as_fractions(self):
        ordered = [(-1, 0, 1), (-1, 0, 2), (0, -1, 1), (0, -1, 2), (0, 1, 3), (0, 1, 2), (1, 5, 3), (1, 0, 2),
                   (1, 1, 2), (2, 1, 3), (1, -9, 1), (1, 0, 1), (3, 0, 2)]
        for several in (ordered, ordered[::-1], ordered[1::2] + ordered[::2]):
            self.assertEqual(ascending(several), ordered)
            dots = Drawing(*[(spot,) for spot in several[:12]]).ink()[0]
            self.assertEqual(list(dots), ascending(several[:12]))

    def test_fractions_that_differ_by_very_little(self):
        less = (HUGE - 1, 0, HUGE)
        more = (HUGE, 0, HUGE + 1)
        self.assertEqual(ascending([more, less]), [less, more])
        self.assertEqual(Drawing((more,), (less,)).ink()[0], (less, more))
        self.assertTrue(precedes(less, more))
        self.assertFalse(precedes(more, less))
        self.assertFalse(precedes(less, less))

    def test_all_small_spots_against_exact_fractions(self):
        numbers = itertools.product(range(-3, 4), range(-3, 4), range(1, 6))
        spots = sorted({spot_at(x, y, d) for x, y, d in numbers})
        ordered = ascending(spots)
        self.assertEqual([exact(spot) for spot in ordered], sorted([exact(spot) for spot in spots]))
        for one, other in zip(ordered, ordered[1:]):
            self.assertTrue(precedes(one, other))
            self.assertFalse(precedes(other, one))

    def test_pairs_and_fractions(self):
        pairs = [((0, 0, 1), (2, 1, 3)), ((0, 0, 1), (1, 0, 2)), ((-1, 0, 3), (9, 0, 1))]
        self.assertEqual(ascending_pairs(pairs), pairs[::-1])
        self.assertEqual(ascending_fractions([(2, 3), (-1, 2), (1, 2)]), [(-1, 2), (1, 2), (2, 3)])
        self.assertEqual([ascending([]), ascending_pairs([]), ascending_fractions([])], [[], [], []])


class SolutionsOfSeveralRows(unittest.TestCase):
    def test_forms(self):
        self.assertEqual(solution([]), ("all",))
        self.assertEqual(solution([(0, 0, 0)]), ("all",))
        self.assertEqual(solution([(0, 0, 1), (1, 0, 0)]), ("none",))
        self.assertEqual(solution([(0, -2, 4), (0, 3, -6)]), ("line", 0, 1, -2))
        self.assertEqual(solution([(1, 0, 1), (2, 0, 3)]), ("none",))
        self.assertEqual(solution([(1, 0, 1), (1, 1, 3), (0, 2, 4)]), ("spot", (1, 2, 1)))
        self.assertEqual(solution([(1, 0, 1), (1, 1, 3), (0, 2, 5)]), ("none",))
        self.assertEqual(solution([(1, 0, 1), (0, 1, 3), (2, 0, 3)]), ("none",))
