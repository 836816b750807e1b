"""Point 19: where an arm can be held whose pen carries some spots to others."""

import itertools
import math
import unittest

from copyarms.arms import Arm
from copyarms.errors import InvalidSpot, InvalidTurn
from copyarms.poles import poles
from tests.exact import HUGE, I, MIDDLE, NO_SPOTS, ONE, at, exact, pen_exactly

BACK = (-1, 0, 1)
DOUBLE = (2, 0, 1)
TURNS = [ONE, BACK, I, DOUBLE, (1, 0, 2), (3, 4, 5), (3, -4, 5), (1, 1, 1), (-5, 12, 13)]
PLACES = [at(x, y) for x in (-1, 0, 2) for y in (-1, 0, 1)] + [(1, 0, 2), (1, 2, 3)]


def pen(pole, turn, spot, mirrored):
    """Where the pen of an arm is, a spot."""
    copy = Arm(pole, turn, 0, 1000, mirrored=mirrored).effect
    return copy(spot)


def is_told(place, told):
    """Whether a place, a spot, is among those that are told as in point 4."""
    if told[0] == "line":
        x, y = exact(place)
        return told[1] * x + told[2] * y == told[3]
    return told[0] == "all" or (told[0] == "spot" and told[1] == place)


def places_of(told):
    """Some spots of those that are told."""
    if told[0] == "spot":
        return [told[1]]
    if told[0] == "all":
        return PLACES
    if told[0] == "none":
        return []
    word, a, b, c = told
    length = a * a + b * b
    return [lowest(a * c - step * b, b * c + step * a, length) for step in range(-2, 3)]


def lowest(x, y, d):
    """The spot (x/d, y/d)."""
    divisor = math.gcd(x, y, d)
    return x // divisor, y // divisor, d // divisor


class FourForms(unittest.TestCase):
    def check(self, turn, pairs, mirrored, expected):
        self.assertEqual(poles(turn, tuple(pairs), mirrored=mirrored), expected)

    def test_one_spot(self):
        self.check(DOUBLE, [(at(1), at(3))], False, ("spot", at(-1)))
        self.check(BACK, [(at(1), at(4, 3))], False, ("spot", (5, 3, 2)))
        self.check(I, [(at(2), at(0, 2))], False, ("spot", MIDDLE))
        self.check((1, 0, 2), [(at(4), at(2, 2))], False, ("spot", at(0, 4)))

    def test_one_spot_mirrored(self):
        self.check(DOUBLE, [(at(1), at(3))], True, ("spot", at(-1)))
        self.check(DOUBLE, [(at(1, 1), at(3))], True, ("spot", (-3, 2, 3)))
        self.check((0, 2, 1), [(at(5, 1), MIDDLE)], True, ("spot", (22, 14, 3)))

    def test_a_turn_1_not_mirrored(self):
        self.check(ONE, [(at(1), at(3))], False, ("none",))
        self.check(ONE, [(at(1), at(1))], False, ("all",))
        self.check(ONE, [(at(1), at(1)), (at(5, 2), at(5, 2))], False, ("all",))
        self.check(ONE, [(at(1), at(1)), (at(5, 2), at(5, 3))], False, ("none",))

    def test_a_turn_1_mirrored(self):
        self.check(ONE, [(at(1), at(1))], True, ("line", 0, 1, 0))
        self.check(ONE, [(at(1, 2), at(1, 7))], True, ("line", 0, 2, 9))
        self.check(ONE, [(at(1, 2), at(2, 7))], True, ("none",))

    def test_a_line(self):
        self.check(BACK, [(at(1), at(3))], True, ("line", 1, 0, 2))
        self.check(I, [(at(1), at(0, 1))], True, ("line", 1, -1, 0))
        self.check(I, [(at(4), at(-1, 5))], True, ("line", 1, -1, -1))
        self.check((3, 4, 5), [(at(5), at(3, 4))], True, ("line", 1, -2, 0))
        self.check((0, -1, 1), [(at(3), at(0, -3))], True, ("line", 1, 1, 0))

    def test_none_mirrored(self):
        self.check(BACK, [(at(1), at(3, 1))], True, ("none",))
        self.check(I, [(at(1), at(0, 2))], True, ("none",))

    def test_default_is_not_mirrored(self):
        self.assertEqual(poles(BACK, ((at(1), at(3)),)), ("spot", at(2)))


class SeveralPairs(unittest.TestCase):
    def test_that_agree(self):
        self.assertEqual(poles(DOUBLE, ((at(1), at(3)), (MIDDLE, at(1)), (I, at(1, 2)))), ("spot", at(-1)))
        self.assertEqual(poles(DOUBLE, ((at(1), at(3)),) * 8), ("spot", at(-1)))
        self.assertEqual(poles(BACK, ((at(1), at(3)), (at(0, 5), at(4, 5))), mirrored=True), ("line", 1, 0, 2))
        self.assertEqual(poles(DOUBLE, ((at(1), at(3)), (MIDDLE, at(1))), mirrored=True), ("spot", at(-1)))

    def test_that_do_not_agree(self):
        self.assertEqual(poles(DOUBLE, ((at(1), at(3)), (MIDDLE, at(2)))), ("none",))
        self.assertEqual(poles(BACK, ((at(1), at(3)), (at(0, 5), at(5, 5))), mirrored=True), ("none",))
        self.assertEqual(poles(BACK, ((at(1), at(3)), (at(0, 5), at(4, 6))), mirrored=True), ("none",))
        self.assertEqual(poles(DOUBLE, ((at(1), at(3)), (I, at(1, 3))), mirrored=True), ("none",))
        self.assertEqual(poles(ONE, ((at(1), at(1, 2)), (at(1), at(1, 4))), mirrored=True), ("none",))

    def test_one_of_eight_does_not_agree(self):
        pairs = [(at(n, n * n), pen((1, 5, 3), (2, 3, 7), at(n, n * n), True)) for n in range(8)]
        self.assertEqual(poles((2, 3, 7), tuple(pairs), mirrored=True), ("spot", (1, 5, 3)))
        for index in range(8):
            wrong = list(pairs)
            wrong[index] = pairs[index][0], at(77)
            self.assertEqual(poles((2, 3, 7), tuple(wrong), mirrored=True), ("none",))

    def test_numbers_of_any_size(self):
        pole, turn = (HUGE, -HUGE - 1, 3), (HUGE, 7, HUGE + 1)
        for mirrored in (False, True):
            pairs = tuple([(spot, pen(pole, turn, spot, mirrored)) for spot in (MIDDLE, at(HUGE, 5), (1, 1, HUGE))])
            self.assertEqual(poles(turn, pairs, mirrored=mirrored), ("spot", pole))


class AgainstThePens(unittest.TestCase):
    def test_each_pole_is_told_and_each_told_one_is_a_pole(self):
        for turn, mirrored, spot, goal in itertools.product(TURNS, (False, True), PLACES[::3], PLACES[::2]):
            told = poles(turn, ((spot, goal),), mirrored=mirrored)
            for place in PLACES:
                arm = Arm(place, turn, 0, 1000, mirrored=mirrored)
                self.assertEqual(is_told(place, told), pen_exactly(arm, exact(spot)) == exact(goal))
            for place in places_of(told):
                self.assertEqual(pen(place, turn, spot, mirrored), goal)

    def test_whatever_its_reach(self):
        far = at(5000)
        self.assertEqual(poles(DOUBLE, ((far, at(10000)),)), ("spot", MIDDLE))

    def test_all_pairs_of_a_known_arm(self):
        for turn, mirrored, pole in itertools.product(TURNS, (False, True), PLACES):
            pairs = tuple([(spot, pen(pole, turn, spot, mirrored)) for spot in PLACES[:4]])
            told = poles(turn, pairs, mirrored=mirrored)
            self.assertTrue(is_told(pole, told))
            x, y, d = turn
            if x * x + y * y != d * d or (turn != ONE and not mirrored):
                self.assertEqual(told, ("spot", pole))
            else:
                self.assertEqual(told[0], "line" if mirrored else "all")


class WrongArguments(unittest.TestCase):
    def test_invalid_turn(self):
        for wrong in [MIDDLE, *NO_SPOTS]:
            with self.assertRaises(InvalidTurn, msg=wrong):
                poles(wrong, ((at(1), at(3)),))

    def test_invalid_spot_in_any_of_the_pairs(self):
        good = (at(1), at(3))
        for wrong in NO_SPOTS:
            for pairs in (((wrong, ONE),), ((ONE, wrong),), (good, good, (wrong, ONE)), (good, good, (ONE, wrong)),
                          ((ONE, wrong), good), (good,) * 7 + ((ONE, wrong),)):
                for mirrored in (False, True):
                    with self.assertRaises(InvalidSpot, msg=pairs):
                        poles(DOUBLE, pairs, mirrored=mirrored)

    def test_invalid_spot_ahead_of_pairs_that_do_not_agree(self):
        with self.assertRaises(InvalidSpot):
            poles(ONE, ((at(1), at(3)), (at(1), (2, 2, 2))))

    def test_invalid_turn_ahead_of_invalid_spot(self):
        for turn in (MIDDLE, (2, 0, 2), (True, 0, 1)):
            with self.assertRaises(InvalidTurn):
                poles(turn, (((2, 2, 2), ONE),))

    def test_repeated_calls_return_equal_results(self):
        pairs = ((at(1), at(3)), (MIDDLE, at(1)))
        self.assertEqual(poles(DOUBLE, pairs), poles(DOUBLE, pairs))
        self.assertEqual(pairs, ((at(1), at(3)), (MIDDLE, at(1))))
