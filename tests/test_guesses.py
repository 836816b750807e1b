"""Point 20: guesses about which arms of a box are joined."""

import itertools
import unittest

from copyarms.arms import Arm
from copyarms.chains import Chain
from copyarms.drawings import Drawing
from copyarms.errors import Contradiction, InvalidBox, InvalidSize, InvalidSpot, OutOfReach
from copyarms.guesses import Guess
from tests.exact import HUGE, I, MIDDLE, NO_NUMBERS, NO_SPOTS, ONE, at, exact, told

DOUBLE = Arm(MIDDLE, (2, 0, 1), 0, 9)
HALF = Arm(MIDDLE, (1, 0, 2), 0, 9)
ASIDE = Arm(at(4), (2, 0, 1), 1, 9)
QUARTER = Arm(ONE, I, 0, 20)
MIRROR = Arm(at(1, 1), (3, 4, 5), 0, 20, mirrored=True)
BOX = (DOUBLE, HALF, ASIDE)
FIVE = (DOUBLE, HALF, ASIDE, QUARTER, MIRROR)
SPOTS = (MIDDLE, at(4), at(8), at(1, 1), (1, 0, 2), at(3), at(-5, 2), at(100), (7, 1, 3))
NO_BOXES = [(), (DOUBLE,) * 6, (DOUBLE,) * 7]


def rows_exactly(count, most):
    """All rows of at most so many arms, in the document's order."""
    rows = [row for length in range(min(count, most) + 1) for row in itertools.permutations(range(count), length)]
    return sorted(rows, key=lambda row: (len(row), row))


def answer_exactly(box, row, spot):
    """Where the last pen is while a dot is traced, or None."""
    try:
        return Chain(*[box[number] for number in row]).draw(Drawing((spot,)))[0][0]
    except OutOfReach:
        return None


def state(guess):
    """All that can be read of a guess."""
    return guess.candidates, guess.history, guess.copies_left, [guess.answers(spot) for spot in SPOTS[:3]]


class AtFirst(unittest.TestCase):
    def test_candidates_for_each_number_of_arms(self):
        self.assertEqual(Guess(BOX, 0).candidates, [()])
        self.assertEqual(Guess(BOX, 1).candidates, [(), (0,), (1,), (2,)])
        self.assertEqual(Guess(BOX, 2).candidates,
                         [(), (0,), (1,), (2,), (0, 1), (0, 2), (1, 0), (1, 2), (2, 0), (2, 1)])
        self.assertEqual(Guess(BOX, 3).candidates, rows_exactly(3, 3))
        for count in range(1, 6):
            for most in range(4):
                self.assertEqual(Guess(FIVE[:count], most).candidates, rows_exactly(count, most))
        self.assertEqual(len(Guess(FIVE, 3).candidates), 86)

    def test_more_arms_than_the_box_has(self):
        self.assertEqual(Guess((DOUBLE,), 3).candidates, [(), (0,)])
        self.assertEqual(Guess((DOUBLE, HALF), 3).candidates, [(), (0,), (1,), (0, 1), (1, 0)])

    def test_no_history(self):
        self.assertEqual(Guess(BOX, 2).history, [])

    def test_invalid_box(self):
        for wrong in NO_BOXES:
            with self.assertRaises(InvalidBox):
                Guess(wrong, 2)

    def test_invalid_size(self):
        for wrong in [-1, 4, 5, HUGE, -HUGE, *NO_NUMBERS]:
            with self.assertRaises(InvalidSize, msg=wrong):
                Guess(BOX, wrong)

    def test_invalid_box_ahead_of_invalid_size(self):
        for wrong in NO_BOXES:
            for most in (-1, 4, True):
                with self.assertRaises(InvalidBox):
                    Guess(wrong, most)


class See(unittest.TestCase):
    def test_with_a_spot_as_the_answer(self):
        guess = Guess(BOX, 2)
        self.assertEqual(guess.see(at(4), at(4)), 3)
        self.assertEqual(guess.candidates, [(), (0, 1), (1, 0)])
        self.assertEqual(guess.see(at(8), at(8)), 2)
        self.assertEqual(guess.candidates, [(), (1, 0)])
        self.assertEqual(guess.see(at(10), at(10)), 1)
        self.assertEqual(guess.candidates, [()])

    def test_with_none_as_the_answer(self):
        guess = Guess(BOX, 2)
        self.assertEqual(guess.see(at(8), None), 5)
        self.assertEqual(guess.candidates, [(0, 1), (0, 2), (1, 2), (2, 0), (2, 1)])
        self.assertEqual(guess.see(at(5), None), 1)
        self.assertEqual(guess.candidates, [(0, 1)])
        self.assertEqual(guess.see(at(5), None), 1)

    def test_an_arm_does_not_reach_because_it_is_too_near(self):
        guess = Guess((ASIDE,), 1)
        self.assertEqual(guess.see(at(4), None), 1)
        self.assertEqual(guess.candidates, [(0,)])

    def test_history(self):
        guess = Guess(BOX, 2)
        guess.see(at(4), at(4))
        guess.see(at(8), at(8))
        guess.see(at(8), at(8))
        guess.see(at(10), at(10))
        self.assertEqual(guess.history, [(at(4), at(4)), (at(8), at(8)), (at(8), at(8)), (at(10), at(10))])

    def test_none_in_the_history(self):
        guess = Guess(BOX, 2)
        guess.see(at(8), None)
        self.assertEqual(guess.history, [(at(8), None)])

    def test_contradiction(self):
        guess = Guess(BOX, 2)
        guess.see(at(4), at(4))
        before = state(guess)
        for spot, answer in ((at(4), at(5)), (at(4), None), (at(8), at(16)), (at(100), at(50))):
            with self.assertRaises(Contradiction):
                guess.see(spot, answer)
            self.assertEqual(state(guess), before)

    def test_invalid_spot(self):
        guess = Guess(BOX, 2)
        guess.see(at(4), at(4))
        before = state(guess)
        for wrong in NO_SPOTS:
            for spot, answer in ((wrong, at(4)), (at(4), wrong), (wrong, None), (wrong, wrong)):
                with self.assertRaises(InvalidSpot, msg=wrong):
                    guess.see(spot, answer)
                self.assertEqual(state(guess), before)

    def test_none_is_no_spot(self):
        with self.assertRaises(InvalidSpot):
            Guess(BOX, 2).see(None, at(4))

    def test_all_by_drawing_dots(self):
        for row in rows_exactly(5, 3)[::7]:
            guess = Guess(FIVE, 3)
            left = rows_exactly(5, 3)
            for spot in SPOTS:
                answer = answer_exactly(FIVE, row, spot)
                left = [other for other in left if answer_exactly(FIVE, other, spot) == answer]
                self.assertEqual(guess.see(spot, answer), len(left))
                self.assertEqual(guess.candidates, left)
            self.assertIn(row, guess.candidates)


class SeeAll(unittest.TestCase):
    def test_no_argument(self):
        guess = Guess(BOX, 2)
        self.assertEqual(guess.see_all(), 10)
        self.assertEqual(guess.history, [])
        guess.see(at(4), at(4))
        self.assertEqual(guess.see_all(), 3)
        self.assertEqual(guess.history, [(at(4), at(4))])

    def test_several_ones(self):
        guess = Guess(BOX, 2)
        self.assertEqual(guess.see_all((at(4), at(4)), (at(8), at(8))), 2)
        self.assertEqual(guess.candidates, [(), (1, 0)])
        self.assertEqual(guess.see_all((at(10), at(10))), 1)
        self.assertEqual(guess.history, [(at(4), at(4)), (at(8), at(8)), (at(10), at(10))])

    def test_with_none_as_an_answer(self):
        guess = Guess(BOX, 2)
        self.assertEqual(guess.see_all((at(8), None), (at(4), at(4))), 1)
        self.assertEqual(guess.candidates, [(0, 1)])

    def test_a_contradiction_ahead_of_a_later_invalid_spot(self):
        guess = Guess(BOX, 2)
        before = state(guess)
        for later in (((2, 2, 2), at(4)), (at(4), (2, 2, 2))):
            with self.assertRaises(Contradiction):
                guess.see_all((at(4), at(4)), (at(4), at(5)), later)
            with self.assertRaises(InvalidSpot):
                guess.see_all((at(4), at(4)), later, (at(4), at(5)))
            with self.assertRaises(InvalidSpot):
                guess.see_all(later, (at(4), at(5)))
            self.assertEqual(state(guess), before)

    def test_answers_that_only_contradict_each_other(self):
        guess = Guess(BOX, 2)
        with self.assertRaises(Contradiction):
            guess.see_all((at(4), at(4)), (at(4), at(8)))
        self.assertEqual(guess.see(at(4), at(8)), Guess(BOX, 2).see(at(4), at(8)))

    def test_none_is_accepted_if_one_fails(self):
        guess = Guess(BOX, 2)
        guess.see(at(4), at(4))
        before = state(guess)
        with self.assertRaises(Contradiction):
            guess.see_all((at(8), at(8)), (at(10), at(10)), (at(10), None))
        self.assertEqual(state(guess), before)
        with self.assertRaises(InvalidSpot):
            guess.see_all((at(8), at(8)), (at(10), at(10)), (at(10), (1, 0, 0)))
        self.assertEqual(state(guess), before)


class Lists(unittest.TestCase):
    def test_new_for_each_reading(self):
        guess = Guess(BOX, 2)
        guess.see(at(4), at(4))
        guess.candidates.clear()
        guess.history.clear()
        guess.answers(at(8)).clear()
        self.assertEqual(guess.candidates, [(), (0, 1), (1, 0)])
        self.assertEqual(guess.history, [(at(4), at(4))])
        self.assertEqual(guess.answers(at(8)), [None, at(8)])
        self.assertIsNot(guess.candidates, guess.candidates)
        self.assertIsNot(guess.history, guess.history)

    def test_read_lists_do_not_change_later(self):
        guess = Guess(BOX, 2)
        candidates, history = guess.candidates, guess.history
        guess.see(at(4), at(4))
        self.assertEqual([len(candidates), history], [10, []])

    def test_two_guesses_are_apart(self):
        one, other = Guess(BOX, 2), Guess(BOX, 2)
        one.see(at(4), at(4))
        self.assertEqual([len(other.candidates), other.history], [10, []])
        self.assertEqual(BOX, (DOUBLE, HALF, ASIDE))


class CopiesLeft(unittest.TestCase):
    def test_different_copies(self):
        self.assertEqual(Guess((DOUBLE, HALF), 2).copies_left, 3)
        self.assertEqual(Guess((DOUBLE, DOUBLE), 1).copies_left, 2)
        self.assertEqual(Guess(BOX, 0).copies_left, 1)

    def test_whatever_the_arms_reach(self):
        never = Arm(MIDDLE, (2, 0, 1), 0, 0)
        guess = Guess((never, never, DOUBLE), 2)
        self.assertEqual(guess.copies_left, 3)
        guess.see(at(5), None)
        self.assertEqual(guess.candidates, [(0,), (1,), (0, 1), (0, 2), (1, 0), (1, 2), (2, 0), (2, 1)])
        self.assertEqual(guess.copies_left, 2)

    def test_after_observations(self):
        guess = Guess(BOX, 2)
        guess.see(at(4), at(4))
        self.assertEqual(guess.copies_left, 1)

    def test_all_rows(self):
        for most in range(4):
            guess = Guess(FIVE, most)
            for spot in (None, at(3), at(1, 1)):
                if spot is not None:
                    guess.see(spot, answer_exactly(FIVE, (3, 0, 4)[:most], spot))
                copies = {told(Chain(*[FIVE[number] for number in row]).effect) for row in guess.candidates}
                self.assertEqual(guess.copies_left, len(copies))


class Answers(unittest.TestCase):
    def test_none_first_then_the_spots_in_order(self):
        self.assertEqual(Guess(BOX, 1).answers(at(3)), [(3, 0, 2), at(2), at(3), at(6)])
        self.assertEqual(Guess(BOX, 1).answers(at(4)), [None, at(2), at(4), at(8)])
        self.assertEqual(Guess(BOX, 1).answers(at(1, 5)), [at(-2, 10), (1, 5, 2), at(1, 5), at(2, 10)])

    def test_each_once(self):
        self.assertEqual(Guess((DOUBLE, HALF), 2).answers(at(4)), [at(2), at(4), at(8)])
        self.assertEqual(Guess((DOUBLE, DOUBLE), 2).answers(at(9)), [None, at(9), at(18)])

    def test_only_one(self):
        self.assertEqual(Guess(BOX, 0).answers(at(HUGE)), [at(HUGE)])
        guess = Guess(BOX, 2)
        guess.see(at(HUGE), None)
        self.assertEqual(guess.answers(at(-HUGE)), [None])

    def test_ordered_by_fractions(self):
        box = (Arm(MIDDLE, (1, 0, 2), 0, 9), Arm(MIDDLE, (1, 0, 3), 0, 9), Arm(MIDDLE, (2, 0, 3), 0, 9), QUARTER)
        self.assertEqual(Guess(box, 1).answers(ONE), [(1, 0, 3), (1, 0, 2), (2, 0, 3), ONE])
        self.assertEqual(Guess(box, 1).answers(I), [at(0, -1), (0, 1, 3), (0, 1, 2), (0, 2, 3), I])

    def test_all_by_drawing_dots(self):
        guess = Guess(FIVE, 3)
        for spot in SPOTS:
            found = {answer_exactly(FIVE, row, spot) for row in rows_exactly(5, 3)}
            expected = ([None] if None in found else []) + sorted(found - {None}, key=exact)
            self.assertEqual(guess.answers(spot), expected)

    def test_invalid_spot(self):
        for wrong in [*NO_SPOTS, None]:
            with self.assertRaises(InvalidSpot):
                Guess(BOX, 2).answers(wrong)

    def test_nothing_changes(self):
        guess = Guess(BOX, 2)
        self.assertEqual(guess.answers(at(3)), guess.answers(at(3)))
        self.assertEqual([len(guess.candidates), guess.history], [10, []])


class BestSpot(unittest.TestCase):
    def test_the_first_of_several_that_are_as_good(self):
        guess = Guess((DOUBLE, HALF), 1)
        self.assertEqual(guess.best_spot((MIDDLE, at(2), at(4))), 1)
        self.assertEqual(guess.best_spot((at(4), MIDDLE, at(2))), 0)
        self.assertEqual(guess.best_spot((MIDDLE, MIDDLE)), 0)

    def test_none_is_an_answer_like_others(self):
        guess = Guess((DOUBLE, HALF), 1)
        self.assertEqual(guess.best_spot((at(10), at(2))), 1)
        self.assertEqual(guess.best_spot((MIDDLE, at(10))), 1)
        far = Guess((Arm(MIDDLE, ONE, 5, 9), Arm(MIDDLE, ONE, 0, 3)), 1)
        self.assertEqual(far.best_spot((MIDDLE, at(4))), 0)
        self.assertEqual(far.best_spot((at(100), MIDDLE)), 0)

    def test_the_worst_case_counts(self):
        box = (Arm(MIDDLE, (2, 0, 1), 0, 9), Arm(MIDDLE, (3, 0, 1), 0, 9), Arm(ONE, (4, 0, 1), 1, 9),
               Arm(ONE, (5, 0, 1), 1, 9))
        guess = Guess(box, 1)
        self.assertEqual(guess.answers(ONE), [None, ONE, at(2), at(3)])
        self.assertEqual(guess.answers(MIDDLE), [at(-4), at(-3), MIDDLE])
        self.assertEqual(guess.best_spot((MIDDLE, ONE)), 1)

    def test_one_spot(self):
        self.assertEqual(Guess(BOX, 3).best_spot((at(100),)), 0)

    def test_only_the_candidates_that_remain(self):
        guess = Guess(BOX, 2)
        guess.see(at(4), at(4))
        self.assertEqual(guess.best_spot((at(4), at(3), at(10), at(8))), 2)

    def test_all_by_drawing_dots(self):
        for most in range(4):
            guess = Guess(FIVE, most)
            for seen in (None, at(3), at(1, 1)):
                if seen is not None:
                    guess.see(seen, answer_exactly(FIVE, (4, 1, 3)[:most], seen))
                for spots in itertools.combinations(SPOTS, 3):
                    worst = [worst_case(guess.candidates, spot) for spot in spots]
                    self.assertEqual(guess.best_spot(spots), worst.index(min(worst)))

    def test_nine_spots(self):
        guess = Guess(FIVE, 2)
        worst = [worst_case(guess.candidates, spot) for spot in SPOTS]
        self.assertEqual(guess.best_spot(SPOTS), worst.index(min(worst)))

    def test_more_than_nine_spots(self):
        self.assertEqual(Guess((DOUBLE, HALF), 1).best_spot((MIDDLE,) * 10 + (at(2),)), 10)

    def test_invalid_spot(self):
        guess = Guess(BOX, 2)
        for wrong in [*NO_SPOTS, None]:
            for spots in ((wrong,), (at(1), wrong), (wrong, at(1)), (at(1), at(2), wrong)):
                with self.assertRaises(InvalidSpot):
                    guess.best_spot(spots)
        self.assertEqual([len(guess.candidates), guess.history], [10, []])


class WithoutArms(unittest.TestCase):
    def test_invalid_spot_although_no_arm_is_asked(self):
        guess = Guess(BOX, 0)
        for wrong in [*NO_SPOTS, None]:
            with self.assertRaises(InvalidSpot):
                guess.see(wrong, ONE)
            with self.assertRaises(InvalidSpot):
                guess.see_all((wrong, None))
            with self.assertRaises(InvalidSpot):
                guess.answers(wrong)
            with self.assertRaises(InvalidSpot):
                guess.best_spot((ONE, wrong))
        with self.assertRaises(InvalidSpot):
            guess.see((2, 0, 2), (2, 0, 2))
        self.assertEqual([guess.candidates, guess.history], [[()], []])

    def test_the_pen_is_at_the_spot(self):
        guess = Guess(BOX, 0)
        self.assertEqual([guess.see(at(HUGE), at(HUGE)), guess.copies_left, guess.best_spot((ONE, I))], [1, 1, 0])
        with self.assertRaises(Contradiction):
            guess.see(at(HUGE), None)


def worst_case(candidates, spot):
    """How many of the candidates the answer to a spot leaves in the worst case."""
    found = [answer_exactly(FIVE, row, spot) for row in candidates]
    return max([found.count(answer) for answer in found])
