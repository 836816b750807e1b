"""Points 3, 4 and 5: copies, what they keep and where they meet, and which ones carry some spots."""

import itertools
import unittest
from fractions import Fraction
from unittest import mock

from copyarms.copies import Copy, carriers, kept, meeting, order
from copyarms.drawings import Drawing
from copyarms.errors import InvalidSpot, InvalidTimes, InvalidTurn, TooFew

MIDDLE = (0, 0, 1)
ONE = (1, 0, 1)
I = (0, 1, 1)
HUGE = 10 ** 40

TURNS = [ONE, I, (-1, 0, 1), (0, -1, 1), (2, 0, 1), (1, 0, 2), (1, -3, 2), (3, 4, 5), (-5, 12, 13), (-3, 0, 1)]
SHIFTS = [MIDDLE, ONE, (0, -2, 1), (3, 1, 2), (-1, 2, 3)]
COPIES = [Copy(turn, shift, mirrored=mirrored)
          for turn in TURNS for shift in SHIFTS for mirrored in (False, True)]
SPOTS = [MIDDLE, ONE, I, (2, -3, 1), (1, 5, 7), (-9, 4, 2)]


def exact(spot):
    return Fraction(spot[0], spot[2]), Fraction(spot[1], spot[2])


def carried_exactly(copy, spot):
    """Point 3 over again, by fractions."""
    (p, q), (s, t), (x, y) = exact(copy.turn), exact(copy.shift), exact(spot)
    if copy.mirrored:
        y = -y
    return p * x - q * y + s, p * y + q * x + t


def told(copy):
    return copy.turn, copy.shift, copy.mirrored


class Carrying(unittest.TestCase):
    def test_where_spots_are_carried(self):
        copy = Copy((0, 2, 1), (1, 0, 2))
        self.assertEqual(copy((3, 1, 1)), (-3, 12, 2))
        self.assertEqual(copy((1, 1, 4)), (0, 1, 2))

    def test_where_spots_are_carried_by_a_mirrored_copy(self):
        copy = Copy((0, 2, 1), (1, 0, 2), mirrored=True)
        self.assertEqual(copy((3, 1, 1)), (5, 12, 2))
        self.assertEqual(copy((0, 5, 1)), (21, 0, 2))

    def test_all_against_exact_fractions(self):
        for copy, spot in itertools.product(COPIES, SPOTS):
            self.assertEqual(exact(copy(spot)), carried_exactly(copy, spot))
            Copy(ONE, copy(spot))

    def test_numbers_of_any_size(self):
        copy = Copy((HUGE, 1, 1), (0, 0, 1))
        self.assertEqual(copy((HUGE, -1, 1)), (HUGE * HUGE + 1, 0, 1))
        self.assertEqual((~copy)((HUGE * HUGE + 1, 0, 1)), (HUGE, -1, 1))

    def test_what_is_no_spot(self):
        for wrong in ((2, 0, 2), (1, 0, True), (1, 0), (0, 0, 0)):
            with self.assertRaises(InvalidSpot):
                Copy(ONE, MIDDLE)(wrong)

    def test_properties(self):
        copy = Copy((3, 4, 5), (1, 0, 2), mirrored=True)
        self.assertEqual(told(copy), ((3, 4, 5), (1, 0, 2), True))
        self.assertIs(Copy(ONE, MIDDLE).mirrored, False)
        self.assertIs(copy.mirrored, True)

    def test_mirrored_is_passed_by_name_only(self):
        with self.assertRaises(TypeError):
            Copy(ONE, MIDDLE, True)

    def test_properties_cannot_be_assigned(self):
        for name in ("turn", "shift", "mirrored", "growth"):
            with self.assertRaises(AttributeError):
                setattr(Copy(ONE, MIDDLE), name, ONE)

    def test_growth_is_in_lowest_terms(self):
        for turn, growth in (((0, -2, 1), (4, 1)), ((1, 1, 2), (1, 2)), ((3, 4, 5), (1, 1)), ((1, 2, 3), (5, 9)),
                             ((1, 3, 2), (5, 2)), ((-HUGE, 0, 3), (HUGE * HUGE, 9))):
            self.assertEqual(Copy(turn, ONE).growth, growth)
            self.assertEqual(Copy(turn, MIDDLE, mirrored=True).growth, growth)


class Joining(unittest.TestCase):
    def test_first_one_then_the_other(self):
        double = Copy((2, 0, 1), MIDDLE)
        aside = Copy(ONE, ONE)
        over = Copy(I, MIDDLE, mirrored=True)
        self.assertEqual(told(double >> aside), ((2, 0, 1), ONE, False))
        self.assertEqual(told(aside >> double), ((2, 0, 1), (2, 0, 1), False))
        self.assertEqual(told(aside >> over), (I, I, True))
        self.assertEqual(told(over >> aside), (I, ONE, True))
        self.assertEqual(told(over >> over), (ONE, MIDDLE, False))

    def test_all_joined_copies_carry_as_one_after_the_other(self):
        for one, other in itertools.product(COPIES[::3], COPIES[::2]):
            joined = one >> other
            self.assertEqual(joined.mirrored, one.mirrored != other.mirrored)
            for spot in SPOTS:
                self.assertEqual(joined(spot), other(one(spot)))

    def test_all_are_carried_back(self):
        for copy in COPIES:
            back = ~copy
            self.assertEqual(back.mirrored, copy.mirrored)
            for spot in SPOTS:
                self.assertEqual(back(copy(spot)), spot)
                self.assertEqual(copy(back(spot)), spot)
            self.assertEqual(~back, copy)

    def test_operators_leave_the_copies_as_they_are(self):
        one = Copy((1, 2, 1), ONE, mirrored=True)
        other = Copy(I, I)
        first = one >> other
        self.assertEqual(told(~one), told(~one))
        self.assertEqual(told(one >> other), told(first))
        self.assertEqual([told(one), told(other)], [((1, 2, 1), ONE, True), (I, I, False)])


class Equality(unittest.TestCase):
    def test_equal_copies(self):
        self.assertEqual(Copy(I, ONE, mirrored=True), Copy((0, 1, 1), (1, 0, 1), mirrored=True))
        self.assertFalse(Copy(I, ONE) != Copy(I, ONE, mirrored=False))

    def test_copies_that_differ(self):
        copy = Copy(I, ONE)
        for other in (Copy((0, -1, 1), ONE), Copy(I, I), Copy(I, ONE, mirrored=True)):
            self.assertFalse(copy == other)
            self.assertTrue(copy != other)

    def test_a_value_of_another_kind(self):
        copy = Copy(I, ONE)
        for other in (None, 0, "copy", (I, ONE, False), [copy], Drawing(), mock.ANY):
            self.assertIs(copy == other, False)
            self.assertIs(copy != other, True)


class Again(unittest.TestCase):
    def test_small_numbers(self):
        copy = Copy((0, 2, 1), (1, 0, 1), mirrored=True)
        self.assertEqual(copy.again(0), Copy(ONE, MIDDLE))
        self.assertEqual(copy.again(1), copy)
        self.assertEqual(copy.again(2), copy >> copy)
        self.assertEqual(copy.again(3), copy >> copy >> copy)
        self.assertEqual(copy.again(-1), ~copy)
        self.assertEqual(copy.again(-3), ~copy >> ~copy >> ~copy)

    def test_limits(self):
        double = Copy((2, 0, 1), MIDDLE)
        aside = Copy(ONE, (1, 0, 3))
        self.assertEqual(told(double.again(100)), ((2 ** 100, 0, 1), MIDDLE, False))
        self.assertEqual(told(double.again(-100)), ((1, 0, 2 ** 100), MIDDLE, False))
        self.assertEqual(told(aside.again(100)), (ONE, (100, 0, 3), False))
        self.assertEqual(told(aside.again(-99)), (ONE, (-33, 0, 1), False))

    def test_invalid_times(self):
        copy = Copy((2, 0, 1), ONE)
        for times in (101, -101, HUGE, -HUGE, True, False, None, "1", (1,)):
            with self.assertRaises(InvalidTimes, msg=times):
                copy.again(times)
        self.assertEqual(told(copy), ((2, 0, 1), ONE, False))


class Kept(unittest.TestCase):
    def test_all(self):
        self.assertEqual(kept(Copy(ONE, MIDDLE)), ("all",))

    def test_none(self):
        self.assertEqual(kept(Copy(ONE, (1, 0, 9))), ("none",))
        self.assertEqual(kept(Copy(ONE, ONE, mirrored=True)), ("none",))
        self.assertEqual(kept(Copy(I, ONE, mirrored=True)), ("none",))

    def test_one_spot(self):
        self.assertEqual(kept(Copy((-1, 0, 1), (1, 3, 1))), ("spot", (1, 3, 2)))
        self.assertEqual(kept(Copy((2, 0, 1), (-3, 1, 1))), ("spot", (3, -1, 1)))
        self.assertEqual(kept(Copy((2, 0, 1), (3, 0, 1), mirrored=True)), ("spot", (-3, 0, 1)))

    def test_the_form_of_the_line(self):
        self.assertEqual(kept(Copy(ONE, MIDDLE, mirrored=True)), ("line", 0, 1, 0))
        self.assertEqual(kept(Copy((-1, 0, 1), MIDDLE, mirrored=True)), ("line", 1, 0, 0))
        self.assertEqual(kept(Copy(ONE, (0, -3, 1), mirrored=True)), ("line", 0, 2, -3))
        self.assertEqual(kept(Copy((-1, 0, 1), (4, 0, 3), mirrored=True)), ("line", 3, 0, 2))
        self.assertEqual(kept(Copy((0, -1, 1), MIDDLE, mirrored=True)), ("line", 1, 1, 0))
        self.assertEqual(kept(Copy(I, (1, -1, 1), mirrored=True)), ("line", 1, -1, 1))
        self.assertEqual(kept(Copy((3, 4, 5), MIDDLE, mirrored=True)), ("line", 1, -2, 0))
        self.assertEqual(kept(Copy((-3, 4, 5), (2, -1, 1), mirrored=True)), ("line", 4, -2, 5))

    def test_all_against_what_is_carried(self):
        near = [(x, y, d) for x in range(-6, 7) for y in range(-6, 7) for d in (1, 2) if d == 1 or x % 2 or y % 2]
        for copy in COPIES:
            self.check(kept(copy), [spot for spot in near if copy(spot) == spot], near)

    def check(self, form, found, near):
        if form[0] == "line":
            _, a, b, c = form
            expected = [(x, y, d) for x, y, d in near if a * x + b * y == c * d]
        else:
            expected = {"all": near, "none": [], "spot": [spot for spot in near if spot in form]}[form[0]]
        self.assertEqual(found, expected)


class Meeting(unittest.TestCase):
    def test_each_form(self):
        copy = Copy((1, 2, 1), (3, 0, 1))
        self.assertEqual(meeting(copy, Copy((1, 2, 1), (3, 0, 1))), ("all",))
        self.assertEqual(meeting(copy, Copy((1, 2, 1), (4, 0, 1))), ("none",))
        self.assertEqual(meeting(copy, Copy((1, 1, 1), (3, 2, 1))), ("spot", (2, 0, 1)))
        self.assertEqual(meeting(copy, Copy((1, 2, 1), (3, 0, 1), mirrored=True)), ("line", 0, 1, 0))
        self.assertEqual(meeting(copy, Copy((1, 2, 1), (1, 1, 1), mirrored=True)), ("line", 0, 2, 1))
        self.assertEqual(meeting(copy, Copy((1, 2, 1), (3, 1, 1), mirrored=True)), ("none",))

    def test_two_mirrored_copies(self):
        one = Copy((2, 0, 1), MIDDLE, mirrored=True)
        self.assertEqual(meeting(one, Copy(ONE, I, mirrored=True)), ("spot", (0, -1, 1)))
        self.assertEqual(meeting(one, Copy((2, 0, 1), ONE, mirrored=True)), ("none",))
        self.assertEqual(meeting(one, one), ("all",))

    def test_a_spot_is_carried_alike_by_both(self):
        for one, other in itertools.product(COPIES[::4], COPIES[::5]):
            form = meeting(one, other)
            self.assertEqual(form, meeting(other, one))
            self.assertEqual(form, kept(one >> ~other))
            if form[0] == "spot":
                self.assertEqual(one(form[1]), other(form[1]))


class Order(unittest.TestCase):
    def test_copies_that_come_back(self):
        for copy, times in (
                (Copy(ONE, MIDDLE), 1), (Copy((-1, 0, 1), (3, 1, 2)), 2), (Copy(I, (7, 1, 1)), 4),
                (Copy((0, -1, 1), (0, 1, 5)), 4), (Copy(ONE, MIDDLE, mirrored=True), 2),
                (Copy((3, 4, 5), MIDDLE, mirrored=True), 2), (Copy((-1, 0, 1), (4, 0, 3), mirrored=True), 2)):
            self.assertEqual(order(copy), times)

    def test_copies_that_never_come_back(self):
        for copy in (
                Copy(ONE, (0, 1, 9)), Copy((2, 0, 1), MIDDLE), Copy((0, 1, 2), MIDDLE), Copy((3, 4, 5), MIDDLE),
                Copy(ONE, ONE, mirrored=True), Copy((2, 0, 1), MIDDLE, mirrored=True),
                Copy((-1, 0, 1), I, mirrored=True)):
            self.assertIsNone(order(copy))

    def test_all_against_doing_them_again(self):
        for copy in COPIES:
            back = [times for times in range(1, 13) if copy.again(times) == Copy(ONE, MIDDLE)]
            self.assertEqual(order(copy), back[0] if back else None)


class Carriers(unittest.TestCase):
    def test_two_copies(self):
        pairs = ((ONE, I), ((3, 0, 1), (0, 2, 1)))
        self.assertEqual([told(copy) for copy in carriers(pairs)],
                         [((0, 1, 2), (0, 1, 2), False), ((0, 1, 2), (0, 1, 2), True)])

    def test_two_copies_through_spots_of_a_slanted_line(self):
        pairs = (((1, 2, 1), MIDDLE), ((2, 4, 1), (5, 0, 1)), ((3, 6, 1), (10, 0, 1)))
        found = carriers(pairs)
        self.assertEqual([told(copy) for copy in found], [((1, -2, 1), (-5, 0, 1), False), ((1, 2, 1), (-5, 0, 1), True)])

    def test_one_copy(self):
        for copy in COPIES:
            pairs = tuple([(spot, copy(spot)) for spot in (ONE, ONE, (2, 1, 5), I)])
            self.assertEqual([told(found) for found in carriers(pairs)], [told(copy)])

    def test_the_first_two_first_spots_can_be_equal(self):
        pairs = ((ONE, MIDDLE), (ONE, MIDDLE), ((2, 0, 1), ONE), ((2, 1, 1), (1, 1, 1)))
        self.assertEqual([told(copy) for copy in carriers(pairs)], [(ONE, (-1, 0, 1), False)])

    def test_no_copy(self):
        self.assertEqual(carriers(((MIDDLE, MIDDLE), (ONE, ONE), (I, (2, 2, 1)))), [])
        self.assertEqual(carriers(((MIDDLE, MIDDLE), (MIDDLE, ONE), (ONE, ONE))), [])

    def test_different_spots_are_not_carried_to_one(self):
        self.assertEqual(carriers(((MIDDLE, ONE), (ONE, ONE))), [])

    def test_eight_pairs(self):
        copy = Copy((1, 1, 1), I, mirrored=True)
        pairs = tuple([((x, x * x, 1), copy((x, x * x, 1))) for x in range(8)])
        self.assertEqual(carriers(pairs), [copy])
        self.assertEqual(carriers(pairs[:7] + ((ONE, ONE),)), [])

    def test_too_few(self):
        for pairs in (((ONE, I),), ((ONE, I), (ONE, I)), ((ONE, I), (ONE, MIDDLE), (ONE, I))):
            with self.assertRaises(TooFew):
                carriers(pairs)

    def test_invalid_spot_in_any_pair_ahead_of_too_few(self):
        for wrong in ((2, 0, 2), (0, 0, 0), (True, 0, 1), (1, 0)):
            for at in range(3):
                for pair in ((wrong, ONE), (ONE, wrong)):
                    pairs = [(ONE, I), (ONE, I), (ONE, I)]
                    pairs[at] = pair
                    with self.assertRaises(InvalidSpot):
                        carriers(tuple(pairs))

    def test_the_list_is_the_callers(self):
        pairs = ((MIDDLE, ONE), ((2, 0, 1), (1, 4, 1)))
        found = carriers(pairs)
        again = carriers(pairs)
        self.assertEqual(found, again)
        found.clear()
        self.assertEqual(carriers(pairs), again)
        self.assertEqual(len(again), 2)


class Constructor(unittest.TestCase):
    def test_errors_in_the_order_of_the_parameters(self):
        with self.assertRaises(InvalidTurn):
            Copy((0, 0, 1), (0, 0, 0))
        with self.assertRaises(InvalidTurn):
            Copy((True, 0, 1), (0, 0, 0))
        with self.assertRaises(InvalidSpot):
            Copy(ONE, (0, 0, 0))
